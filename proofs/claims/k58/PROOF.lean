import PyProof.Rows.All
import Wide.All
import OpenK.AllK
import Wide.FinOn
import HandS.ForMost
import HandS.ForExc
import HandS.CallSlots
import HandS.ExcCtx
import HandS.IsInst
import HandS.Defaults
import HandS.TupAny
import HandS.TupMul
import HandS.Wide
import HandS.Conv
import HandS.Flow
import HandS.Codes
import HandS.Zip
import PySem.Challenge.RW_stillends_k58_whole_rows_are_ways
import HandS.Iter
import KE.GoesEnum
import KE.GoesMore
import HandS.DictComp
import HandS.SetBool
import HandS.SetTxt0
import HandS.SortInts
import PyProof.Rows.SortStr
import HandS.Lambda
import HandS.SortKw
import KE.SortKeyHeap
import HandS.Words
import KE.OsSortAny
import KE.KDictSum
import HandS.Walk
import HandS.SetKeys
import HandS.EndTab
set_option Elab.async false
set_option linter.all false
set_option maxRecDepth 100000
set_option maxHeartbeats 2000000
namespace PySem
namespace NUsX
open PySem.W PySem.Calls PyProof.Rows PySem.HandSPX
def iA (p1 p2 : Pos) : Arguments := { posonlyargs := [], args := [{ arg := "self", annotation := none, pos := p1 }, { arg := "word", annotation := none, pos := p2 }], vararg := none, kwonlyargs := [], kw_defaults := [], kwarg := none, defaults := [] }
def iB (q1 q2 q3 q4 : Pos) : List Stmt := [.Assign [.Attribute (.Name "self" q1) "word" q2] (.Name "word" q3) q4]
def iS : Scope := { kind := .function, names := [(PySem.Str.ofString "self", .local), (PySem.Str.ofString "word", .local)], isGenerator := false, isCoroutine := false, more := [] }
structure NUsTxt (K : Frag) (mg : Str → Option Value) (C fI : Addr) : Prop where
  gC : mg "NotUsable" = some (.ref C)
  cls : ∃ nm q N bs bm sn sub ab col dd k0 k1 k2 k3 k5, K.lookup C = some (excClassObj nm q C N bs bm true sn sub ab col dd k0 k1 k2 k3 k5 "ValueError.__new__") ∧ refsVE bm = true
  sa : findIn K (.ref C) "__setattr__" = some (some (.builtin "object.__setattr__"))
  ga : findIn K (.ref C) "__getattribute__" = some (some (.builtin "BaseException.__getattribute__"))
  gg : findIn K (.ref C) "__getattr__" = some none
  noN : findIn K (.ref C) "word" = some none
  iC : findIn K (.ref C) "__init__" = some (some (.ref fI))
  tC : typeIn K (.ref fI) = some (.type "function")
  kC : keepIn K (.ref C) = true
  exC : subIn K (.ref C) (.type "BaseException") = some true
  tyC : typeIn K (.ref C) = some (.type "type")
  hdC : hasDictIn K C = true
  te : exmOne K (.ref C) (.ref C) = some true
  fn : ∃ (oc : Value) (od : Option Addr) (doc pm : Value) (an : Option Addr) (cdv ct : Value) (osl : Array (Option Value)) (p1 p2 q1 q2 q3 q4 : Pos),
    K.lookup fI = some ⟨oc, od, .func (fnOf "__init__" "NotUsable.__init__" (iA p1 p2) (iB q1 q2 q3 q4) iS .none .none doc pm an cdv ct), osl⟩ ∧ codeIn K cdv "NotUsable.__init__" = true
theorem one_size (v : Value) : [v].length ≤ sizeLine := by
  rw [sizeLine_eq]
  exact (by decide : 1 ≤ 16777216)
theorem kept_but {K : Frag} {h h' : Heap} {x : Addr} (X : K.In h) (hx : K.lookup x = none) (k : ∀ b o, b ≠ x → h.get? b = some o → h'.get? b = some o) : K.In h' := fun a o e =>
  k a o (fun z => by rw [z, hx] at e; cases e) (X a o e)
theorem ldC {M : Model} {s : Shared} {name : Str} {scope : Scope} {L a : Addr} {cd : Value} {m : Str → Option Value} {x : Str} {pos : Pos} {v : Value} {Q : Value → Shared → Prop} {A : Around} {E : Value → Shared → Prop} (hn : s.heap.Ns L m) (hv : m x = some v) (h : Q v s)
    (hk : scope.kind = .function := by rfl) (hl : (envOfC name scope L a cd).kindOf x = some .local := by rfl) (hd : (x == ("__debug__" : Str)) = false := by decide) :
    wpAny M A (eval (.Name x pos) (envOfC name scope L a cd)) Q E s := wpAny_Name (wpAny_loadName_local hk hl hn hv h) hd
structure InitEnd (h h' : Heap) (x C dx t1 : Addr) (v : Value) : Prop where
  keep : ∀ b o, b ≠ x → h.get? b = some o → h'.get? b = some o
  obj : h'.get? x = some { cls := .ref C, dict := some dx, data := .fields #[.ref t1, .none, .none, .none, .bool false, .none] }
  dbig : h.objs.size ≤ dx
  dne : dx ≠ x
  ns : h'.Ns1 dx (fun y => if y = "word" then some v else none)
structure OwnMade (h h' : Heap) (e C d : Addr) (v : Value) : Prop where
  keep : ∀ b o, h.get? b = some o → h'.get? b = some o
  new : h.objs.size ≤ e
  obj : ∃ oe vs, h'.get? e = some oe ∧ oe.cls = .ref C ∧ oe.dict = some d ∧ oe.data = .fields vs ∧ vs[1]? = some .none ∧ vs[2]? = some .none
  dbig : h.objs.size ≤ d
  dne : d ≠ e
  ns : h'.Ns1 d (fun y => if y = "word" then some v else none)
section
variable {prog : Program} {w : World} {A : Around} {E : Value → Shared → Prop} {R : Result → Shared → Prop} {s : Shared} {K : Frag} {mg : Str → Option Value} {C fI : Addr}
theorem nus_init (T : NUsTxt K mg C fI) {x t0 : Addr} {v : Value} (X : K.In s.heap) (hlim : s.heap.NoLimit) (hx : s.heap.get? x = some (excO C t0)) (hnx : K.lookup x = none) (hroom : A.depth < recursionLimit)
    (hq : ∀ h' tk dx, InitEnd s.heap h' x C dx t0 v → R (.ok (.ret .none)) { s with heap := h', toks := tk }) :
    codeAny (model prog w) A (.call (.ref fI) ⟨[.ref x, v], []⟩) R s := by
  obtain ⟨oc, od, doc, pm, an, cdv, ct, osl, p1, p2, q1, q2, q3, q4, ho, hcd⟩ := T.fn
  obtain ⟨nm, q, N, bs, bm, sn, sub, ab, col, dd, k0, k1, k2, k3, k5, hC, hbm⟩ := T.cls
  have hcl : clsIn K C = some { name := nm, bases := bs, mro := .ref C :: bm, ns := N, qualname := q, hasDict := true, slotNames := sn, subclasses := sub, abstract := ab, collection := col, hasDel := false } := by unfold clsIn; rw [hC] <;> rfl
  refine Att.call_fn (binds := [("self", .ref x), ("word", v)]) X hlim ho hcd hroom (BindsTo.of_eq (by first | rfl | with_unfolding_all rfl)) (by first | rfl | decide | with_unfolding_all rfl) (fun s₁ IC => ?_) rfl rfl rfl
  obtain ⟨h₁, tk₁, rfl⟩ := IC.toInCall.same
  have k : ∀ b o, s.heap.get? b = some o → h₁.get? b = some o := IC.toInCall.keep
  have hn := IC.toInCall.ns
  have hxL : s.heap.objs.size ≠ x := Nat.ne_of_gt (Heap.lt_size hx)
  have X₁ : K.In h₁ := X.keeps k
  have hx₁ := k _ _ hx
  show wpAny _ _ (execs _ _) _ _ _
  refine wpAny_execs_cons (plainObj_wpAny_Assign_Attribute ?_)
  refine ldC (v := v) hn (by first | rfl | with_unfolding_all rfl | kernel_rfl) (ldC (v := .ref x) hn (by first | rfl | with_unfolding_all rfl | kernel_rfl) ?_)
  refine set_plain X₁ (ox := excO C t0) (od := none) ⟨hx₁, rfl, rfl, trivial⟩ T.sa ?_
  refine exc_osa X₁ hx₁ hcl (show refsVE (.ref C :: bm) = true from hbm) rfl T.noN (fun h₃ tk₃ dx k₃ dn dne hx₃ hn₃ => ?_)
  show wpAny _ _ (execs _ _) _ _ _
  have z : s.heap.objs.size < h₁.objs.size := hn.lt
  exact wpAny_execs_nil (hq h₃ tk₃ dx ⟨fun b o hb e => k₃ b o hb (k b o e), hx₃, Nat.le_of_lt (Nat.lt_of_lt_of_le z dn), dne, hn₃⟩)
theorem nus_made (T : NUsTxt K mg C fI) {v : Value} (X : K.In s.heap) (hlim : s.heap.NoLimit) (hroom : A.depth + 1 < recursionLimit)
    (hq : ∀ h' tk e d, OwnMade s.heap h' e C d v → R (.ok (.ret (.ref e))) { s with heap := h', toks := tk }) :
    codeAny (model prog w) A (.call (.ref C) ⟨[v], []⟩) R s := by
  obtain ⟨nm, q, N, bs, bm, sn, sub, ab, col, dd, k0, k1, k2, k3, k5, hC, hbm⟩ := T.cls
  obtain ⟨hp, g, dr, tk, os⟩ := s
  have k : ∀ b o, hp.get? b = some o → ((hp.push (kdv_tup [v])).push (excO C hp.objs.size)).get? b = some o := fun b o e => Heap.get?_push_of_some _ (Heap.get?_push_of_some _ e)
  have hget : ((hp.push (kdv_tup [v])).push (excO C hp.objs.size)).get? (hp.objs.size + 1) = some (excO C hp.objs.size) := by heap_get
  have hnx : K.lookup (hp.objs.size + 1) = none := by
    cases e : K.lookup (hp.objs.size + 1) with
    | none => rfl
    | some o =>
      have z : hp.get? (hp.objs.size + 1) = some o := X _ _ e
      exact absurd (Nat.lt_of_succ_lt (Heap.lt_size z)) (Nat.lt_irrefl _)
  refine call_own F.excBase_ValueError (fun X => refsVE_contains X bm hbm) (X _ _ hC) (looks_findIn X T.iC) (fun self => bind_fn X self T.tC) (one_size v) ?_
  refine nus_init (s := ⟨(hp.push (kdv_tup [v])).push (excO C hp.objs.size), g, dr, tk, os⟩) T (X.keeps k) (hlim.keeps k) hget hnx ?_ fun h' tk' dx ⟨k', hx, dn, dne, hns⟩ => ?_
  · show A.depth + 1 < recursionLimit
    exact hroom
  · have old : ∀ b o, hp.get? b = some o → h'.get? b = some o := fun b o e => k' b o (Nat.ne_of_lt (Nat.lt_succ_of_lt (Heap.lt_size e))) (k b o e)
    have z : hp.objs.size + 1 + 1 ≤ dx := by
      first
        | (simpa only [Heap.size_push] using dn)
        | exact dn
        | (have q := dn; rw [Heap.size_push, Heap.size_push] at q; exact q)
    exact ⟨rfl, hq h' tk' (hp.objs.size + 1) dx ⟨old, Nat.le_succ _, ⟨_, _, hx, rfl, rfl, rfl, rfl, rfl⟩, Nat.le_trans (Nat.le_trans (Nat.le_succ _) (Nat.le_succ _)) z, dne, hns⟩⟩
end
end NUsX
end PySem
namespace L2
open PySem PySem.Spec PyProof.Rows
theorem relO_nus {v : V} {v' : Value} (r : RelV v v') (f : Str) : RelO (List.lookup f [(("word" : Str), v)]) (if f = "word" then some v' else none) := by
  by_cases hw : f = "word"
  · subst hw
    rw [if_pos rfl]
    have q : List.lookup ("word" : Str) [(("word" : Str), v)] = some v := by simp [List.lookup]
    rw [q]
    exact r
  · rw [if_neg hw]
    have qw : (f == ("word" : Str)) = false := by simpa using hw
    have q2 : List.lookup f [(("word" : Str), v)] = none := by simp [List.lookup, qw]
    rw [q2]
    trivial
section
variable {X : Cx} {C fI : Addr}
def tMkNus (C : Addr) (ta : TA) : St → Hp → XK → Prop := fun σ H Q => ta σ H fun vs H1 => ∃ v, vs = [v] ∧ ∀ d, H1 d = none → Q (.ref C) (some d) (upd H1 d (.xd [(("word" : Str), v)]))
theorem pmk_nus {a : Expr} {ta : TA} {p pos : Pos} {k : Nat} (T : PySem.NUsX.NUsTxt X.K X.mg C fI) (hr : Room k X.A) (ha : PA X [a] ta) (hg : Gl X "NotUsable" := by rfl)
    (he : starEach (a :: []) X.env = (false, eval a X.env) :: starEach [] X.env := by rfl) (hpl : (backTo pos (starEach [] X.env)).any (·.1) = false := by rfl) :
    PMk X (.Call (.Name "NotUsable" p) [a] [] pos) (tMkNus C ta) := by
  intro pins s σ H Q I h
  refine wpAny_Call_Name_kw (ld_glob I hg T.gC ?_)
  refine PySem.W.callWith_K (h₀ := X.base) I.ok.mod.kin T.kC (thn (ha.run pos pins s σ H _ I h) fun us s1 hh => ?_) he hpl
  obtain ⟨vs, H1, I1, r1, v, ev, q1⟩ := hh
  subst ev
  refine ⟨I1.kIn, ?_⟩
  cases r1 with
  | cons rv rn =>
    rename_i v' us'
    cases rn
    show wpAny _ _ (call (.ref C) [v']) _ _ _
    have hlim := I1.nolimit
    obtain ⟨hp, g, dr, tk, os⟩ := s1
    refine wpAny_call (PySem.NUsX.nus_made T I1.kIn hlim (by have := hr.dp; omega) fun h' tk' e d M => ?_)
    show MkP X pins σ Q (.ref e) ⟨h', g, dr, tk', os⟩
    obtain ⟨oe, fv, hoe, hc, hd, hdat, h1, h2⟩ := M.obj
    have hns := M.ns
    obtain ⟨G', g1, g2⟩ := restrict h' fun b => decide (b ≠ e)
    have gk : ∀ b, b ≠ e → G'.get? b = h'.get? b := fun b hb => g1 b (decide_eq_true hb)
    have ge : G'.get? e = none := g2 e (by simp)
    have old : ∀ b o, hp.get? b = some o → G'.get? b = some o := fun b o q => (gk b (Nat.ne_of_lt (Nat.lt_of_lt_of_le (Heap.lt_size q) M.new))).trans (M.keep b o q)
    have ob : ObjOk X.prog X.w (upd H1 d (.xd [(("word" : Str), v)])) G' d (.xd [(("word" : Str), v)]) :=
      ⟨_, hns.at (fun o q => (gk d M.dne).trans q), fun f => relO_nus rv f⟩
    have J : Inv X pins σ (upd H1 d (.xd [(("word" : Str), v)])) ⟨G', g, dr, tk', os⟩ := I1.laid (t' := tk') old M.dbig ob
    refine ⟨e, oe, fv, ⟨G', g, dr, tk', os⟩, _, .ref C, some d, rfl, J, fun b o q => ?_, ge, hoe, ⟨hc, hd⟩, hdat, h1, ?_, rfl, I1.bare, raises_own T.exC T.tyC, q1 d (I1.hok.fresh M.dbig)⟩
    · by_cases hb : b = e
      · have q' : G'.get? b = some o := q
        rw [hb, ge] at q'; cases q'
      · exact (gk b hb).symm.trans q
    · rw [upd_ne (Ne.symm M.dne)]
      exact I1.hok.fresh M.new
def tRaiseNus (C : Addr) (W : WX) (ta : TA) : TS := fun _ σ H => tMkNus C ta σ H fun cls d H' => W cls d σ H'
theorem ps_raiseNus {a : Expr} {ta : TA} {W : WX} {p pos pos2 : Pos} {k : Nat} (hc : X.calm = true) (T : PySem.NUsX.NUsTxt X.K X.mg C fI) (hr : Room k X.A) (tk : Takes X W) (ha : PA X [a] ta) (hg : Gl X "NotUsable" := by rfl)
    (he : starEach (a :: []) X.env = (false, eval a X.env) :: starEach [] X.env := by rfl) (hpl : (backTo pos (starEach [] X.env)).any (·.1) = false := by rfl) :
    PS X (.Raise (some (.Call (.Name "NotUsable" p) [a] [] pos)) none pos2) (tRaiseNus C W ta) := ps_raise hc tk (pmk_nus T hr ha hg he hpl)
theorem pmkN_nus {a : Expr} {ta : TA} {p pos : Pos} {k : Nat} (T : PySem.NUsX.NUsTxt X.K X.mg C fI) (hr : Room k X.A) (ha : PA X [a] ta) (hg : Gl X "NotUsable" := by rfl)
    (he : starEach (a :: []) X.env = (false, eval a X.env) :: starEach [] X.env := by rfl) (hpl : (backTo pos (starEach [] X.env)).any (·.1) = false := by rfl) :
    L2N.PMk X (.Call (.Name "NotUsable" p) [a] [] pos) (tMkNus C ta) := by
  intro pins s σ H Q I h
  refine wpAny_Call_Name_kw (ld_glob I hg T.gC ?_)
  refine PySem.W.callWith_K (h₀ := X.base) I.ok.mod.kin T.kC (thn (ha.run pos pins s σ H _ I h) fun us s1 hh => ?_) he hpl
  obtain ⟨vs, H1, I1, r1, v, ev, q1⟩ := hh
  subst ev
  refine ⟨I1.kIn, ?_⟩
  cases r1 with
  | cons rv rn =>
    rename_i v' us'
    cases rn
    show wpAny _ _ (call (.ref C) [v']) _ _ _
    have hlim := I1.nolimit
    obtain ⟨hp, g, dr, tk, os⟩ := s1
    refine wpAny_call (PySem.NUsX.nus_made T I1.kIn hlim (by have := hr.dp; omega) fun h' tk' e d M => ?_)
    show L2N.MkP X pins σ Q (.ref e) ⟨h', g, dr, tk', os⟩
    obtain ⟨oe, fv, hoe, hc, hd, hdat, h1, h2⟩ := M.obj
    have hns := M.ns
    obtain ⟨G', g1, g2⟩ := restrict h' fun b => decide (b ≠ e)
    have gk : ∀ b, b ≠ e → G'.get? b = h'.get? b := fun b hb => g1 b (decide_eq_true hb)
    have ge : G'.get? e = none := g2 e (by simp)
    have old : ∀ b o, hp.get? b = some o → G'.get? b = some o := fun b o q => (gk b (Nat.ne_of_lt (Nat.lt_of_lt_of_le (Heap.lt_size q) M.new))).trans (M.keep b o q)
    have ob : ObjOk X.prog X.w (upd H1 d (.xd [(("word" : Str), v)])) G' d (.xd [(("word" : Str), v)]) :=
      ⟨_, hns.at (fun o q => (gk d M.dne).trans q), fun f => relO_nus rv f⟩
    have J : Inv X pins σ (upd H1 d (.xd [(("word" : Str), v)])) ⟨G', g, dr, tk', os⟩ := I1.laid (t' := tk') old M.dbig ob
    refine ⟨e, oe, fv, ⟨G', g, dr, tk', os⟩, _, .ref C, some d, rfl, J, fun b o q => ?_, ge, hoe, ⟨hc, hd, fun vs e => by rw [hdat] at e; cases e; exact h2⟩, hdat, h1, ?_, rfl, I1.bare, raises_own T.exC T.tyC, q1 d (I1.hok.fresh M.dbig)⟩
    · by_cases hb : b = e
      · have q' : G'.get? b = some o := q
        rw [hb, ge] at q'; cases q'
      · exact (gk b hb).symm.trans q
    · rw [upd_ne (Ne.symm M.dne)]
      exact I1.hok.fresh M.new
theorem psN_raiseNus {a : Expr} {ta : TA} {W : WX} {p pos pos2 : Pos} {k : Nat} (hc : X.calm = true) (T : PySem.NUsX.NUsTxt X.K X.mg C fI) (hr : Room k X.A) (tk : L2N.Takes X W) (ha : PA X [a] ta) (hg : Gl X "NotUsable" := by rfl)
    (he : starEach (a :: []) X.env = (false, eval a X.env) :: starEach [] X.env := by rfl) (hpl : (backTo pos (starEach [] X.env)).any (·.1) = false := by rfl) :
    PS X (.Raise (some (.Call (.Name "NotUsable" p) [a] [] pos)) none pos2) (tRaiseNus C W ta) := L2N.ps_raise hc tk (pmkN_nus T hr ha hg he hpl)
def tByNus (C : Addr) (a : Addr) (cls : Value) (d : Option Addr) (te : TE) : TE := fun σ H Q => te σ H fun x H1 => x = .ref a ∧ cls = .ref C ∧ ∃ (dd : Addr) (v : V), d = some dd ∧ H1 dd = some (.xd [(("word" : Str), v)]) ∧ Q v H1
theorem pe_byNus {a : Addr} {oe : Obj} {cls : Value} {d : Option Addr} {pn : List (Addr × Obj)} {e : Expr} {te : TE} {pos : Pos} (T : PySem.NUsX.NUsTxt X.K X.mg C fI) (hz : Zc cls d oe) (hf : ∃ vs, oe.data = .fields vs) (he : PE (X.suite a ((a, oe) :: pn)) e te)
    (hb : attributeBase e "word" X.env (eval e X.env) = eval e X.env := by rfl) :
    PE (X.suite a ((a, oe) :: pn)) (.Attribute e "word" pos) (tByNus C a cls d te) := by
  refine ⟨fun pins s σ H Q I h => ?_⟩
  refine attr_of hb (thn (he.run pins s σ H _ I h) fun u s1 hh => ?_)
  obtain ⟨x, H1, I1, rx, ex, ec, dd, v, ed, ea, q⟩ := hh
  subst ex
  obtain rfl : u = Value.ref a := rx
  subst ec
  subst ed
  obtain ⟨ha, _⟩ := I1.pin (a, oe) (List.mem_append_left _ List.mem_cons_self)
  obtain ⟨vs, hd⟩ := hf
  have hx : ObjOk X.prog X.w H1 s1.heap dd (.xd [(("word" : Str), v)]) := I1.hok dd _ ea
  obtain ⟨mA, hns, hr⟩ := hx
  obtain ⟨od, ho, hl⟩ := lookIn_ns hns
  have l : List.lookup ("word" : Str) [(("word" : Str), v)] = some v := by simp [List.lookup]
  obtain ⟨u, hu, ru⟩ := RelO.some_of (v := v) (o := mA "word") (by rw [← l]; exact hr "word")
  have J : PySem.W.InstAt s1.heap a oe C (some od) := ⟨ha, hz.1, by unfold PySem.W.notCls; rw [hd] <;> rfl, by rw [hz.2]; exact ho⟩
  exact HandSPX.exc_get I1.kIn J T.ga T.gg T.exC (PySem.W.findObj_own T.hdC T.noN rfl (by rw [hl, hu])) (handed_of ru) ⟨v, H1, I1.tok _, ru, q⟩
end
end L2
set_option Elab.async false
set_option linter.all false
set_option maxRecDepth 100000
set_option maxHeartbeats 2000000
namespace Ver
open PySem PySem.Spec PyProof.Rows L2

def kindOfD : PyData → String
  | .none => "NoneType"
  | .bool _ => "bool"
  | .int _ => "int"
  | .str _ => "str"
  | .list _ => "list"
  | .tuple _ => "tuple"
  | .dict _ => "dict"
theorem tyx_of {K : PySem.W.Frag} {H : Hp} {x : V} {d : PyData} (h : Dp K H x d) : TyX K H x (.type (kindOfD d)) := by
  cases h with
  | non => exact .base .non
  | bl b => exact .base (.bl b)
  | int i => exact .base (.int i)
  | str s => exact .base (.str s)
  | lst hs _ =>
    rcases hs with (hs | ⟨o, hs⟩) | ⟨o, its, n, hk, hc, _⟩
    · exact .base (.lst hs)
    · exact .base (.frz hs)
    · exact .kList hk hc
  | tup hs _ =>
    rcases hs with (hs | ⟨o, hs⟩) | ⟨o, its, n, hk, hc, _⟩
    · exact .base (.tup hs)
    · exact .fTuple hs
    · exact .kTuple hk hc
def isaK (n k : String) : Bool := k == n || (n == "int" && k == "bool")
abbrev isaD (n : String) (d : PyData) : Bool := isaK n (kindOfD d)
def kinds7 : List String := ["NoneType", "bool", "int", "str", "list", "tuple", "dict"]
def asked5 : List String := ["int", "bool", "str", "tuple", "list"]
theorem kind_in (d : PyData) : kindOfD d ∈ kinds7 := by cases d <;> simp [kindOfD, kinds7]
theorem kit_all : kinds7.all (fun k => asked5.all fun n => kitB k n == some (isaK n k)) = true := by decide +kernel
theorem kit_asked {K : PySem.W.Frag} {n : String} (h : n ∈ asked5) (d : PyData) : PySem.W.kitOne K (.type (kindOfD d)) (.type n) = some (isaD n d) := by
  have h1 := List.all_eq_true.mp kit_all _ (kind_in d)
  exact kit_ty (eq_of_beq (List.all_eq_true.mp h1 _ h))
def rIsiD (K : PySem.W.Frag) (n : String) : List V → Hp → VK → Prop := fun vs H Q => ∃ x d, vs = [x, .ty n] ∧ Dp K H x d ∧ Q (.bl (isaD n d)) H
section
variable {X : Cx}
theorem cr_isiD {n : String} (hn : n ∈ asked5) : CallR X (.builtin "isinstance") (rIsiD X.K n) := by
  intro pins s σ H xs us Q I r h
  obtain ⟨x, d, rfl, hd, q⟩ := h
  exact call_isi pins s σ H _ us Q I r ⟨x, .ty n, _, _, _, rfl, .ty n, tyx_of hd, kit_asked hn d, q⟩

def tCallKw (sp : Sp) (n : Nat) (gV : List V → List V) (E : L2.St → XK) (tk : TA) : TE := fun σ H Q => tk σ H fun zs H1 => zs.length = n ∧ sp (gV zs) H1 Q (E σ)
variable {CX : CXT} {k : Nat} {f : Addr} {fd : FuncData} {ps ks : List Str} {sp : Sp} {E : L2.St → XK} {x : Str} {p pos : Pos} {kws : List Keyword} {tk : TA} {g : List Value → List Value} {gV : List V → List V}
theorem pe_callKw (F : FnOk X.prog X.w X.K X.mg X.base CX k f fd ps sp) (hr : Room k X.A) (hg : Gl X x) (hm : X.mg x = some (.ref f)) (hk : PySem.W.keepIn X.K (.ref f) = true)
    (hb : KBn X.K fd ps 0 ks (fun _ ws => g ws) (fun _ zs => gV zs)) (hx : ∀ σ, PassesAt CX X σ (E σ)) (hkw : PK X kws tk)
    (hall : (backToKw pos (keywordEach kws X.env)).all (·.1.isSome) = true := by rfl) (hks : (backToKw pos (keywordEach kws X.env)).filterMap (·.1) = ks := by rfl) (hdb : (x == ("__debug__" : Str)) = false := by decide)
    (hpl : ((backTo pos (starEach [] X.env)).any (·.1) || (backToKw pos (keywordEach kws X.env)).any (·.1.isNone)) = false := by rfl) :
    PE X (.Call (.Name x p) [] kws pos) (tCallKw sp ks.length gV E tk) := by
  refine ⟨fun pins s σ H Q I h => ?_⟩
  refine wpAny_Call_Name_kw (ld_glob I hg hm ?_ hdb)
  refine PySem.W.callWith_KW0 (h₀ := X.base) I.ok.mod.kin hk hall ?_ hpl
  refine thn (hkw.run pos pins s σ H _ I h) fun ws s2 ⟨zs, H2, I2, rz, hl, q⟩ => ⟨I2.kIn, ?_⟩
  rw [hks]
  have r2 : Vals (gV zs) (g ws) := hb.rel (vs := []) (us := []) .nil rz
  have hto : BindsTo s2 fd ⟨[], ks.zip ws⟩ (ps.zip (g ws)) := hb.to s2 [] ws I2.kIn rfl (rz.length.symm.trans hl)
  show wpAny _ _ (call (.ref f) [] (ks.zip ws)) _ _ _
  refine wpAny_call (codeAny_mono (F.run X.A X.stack s2 H2 ⟨[], ks.zip ws⟩ (g ws) (gV zs) Q (E σ) hr I2.env0 hto r2 q) fun r s' hq => ?_)
  cases r with
  | error e => exact hx σ pins H2 s2 e s' I2 hq
  | ok fl =>
    cases fl with
    | ret u => exact I2.after hq
    | next => exact False.elim hq
    | brk => exact False.elim hq
    | cont => exact False.elim hq

theorem tuple_mul1 (l : Addr) (items : Array Value) (n : Nat) (dd : Option Addr) (sl : Array (Option Value)) (u : Tok) :
    Meets (Builtin.«tuple.__mul__» ⟨[.ref l, .int 1 u], []⟩) (fun _ R s => s.heap.get? l = some { cls := .type "tuple", dict := dd, data := .seq items n, slots := sl } ∧ R (.ok (.ret (Value.ref l))) s) :=
  .of_wp fun prog w A R s h => by
    obtain ⟨hp, g, d, tk, os⟩ := s
    obtain ⟨hl, h⟩ := h
    have f1 := AutoSeq1.idx_int
    wp_walk using wpAny_loadPart' hl
    exact ⟨_, rfl, h⟩
def rRepA (K : PySem.W.Frag) : R2 := fun x y H Q => ∃ l k xs, x = .ref l ∧ y = .int k ∧ SqT K H l xs ∧ xs ≠ [] ∧ 1 ≤ k ∧ k ≤ 1000 ∧ xs.length ≤ 1000 ∧
  (k = 1 → Q (.ref l) H) ∧ (k ≠ 1 → ∀ p, H p = none → Q (.ref p) (upd H p (.tup (List.replicate k.toNat xs).flatten)))
theorem op_repA : OpR X (binaryOp .Mult) (rRepA X.K) := by
  intro pins s σ H x y v u Q I rx ry h
  obtain ⟨l, k, xs, rfl, rfl, hT, hne, h1, h2, hz, q1, q2⟩ := h
  by_cases h3 : k = 1
  · subst h3
    cases rx
    obtain ⟨t, rfl⟩ := ry
    obtain ⟨its, r, ⟨⟨cls, dd, data, sl⟩, ho, hc, n, hd⟩, hs⟩ := I.tuple hT
    simp only at hc hd
    subst hc hd
    exact wpAny_binaryOp_repeat_ref (T := "tuple") (U := "int") (by decide) ⟨_, ho, rfl⟩ (fun s' => typeIs_int s' 1 t) noFill_tuple_mul F.fills_int_mul F.slot_int_rmul repeat_tuple F.slot_int_index.lookup
      (call_meets F.slot_int_rmul (typeIs_int s 1 t) F.entry_int_rmul (F.args_int_rmul_2 _ _) (int_rmul_tuple 1 t l its.toArray n dd sl)
        ⟨ho, rfl, ⟨_, ho, rfl⟩, call_meets F.slot_tuple_mul ⟨_, ho, rfl⟩ F.entry_tuple_mul (F.args_tuple_mul_2 _ _) (tuple_mul1 l its.toArray n dd sl t) ⟨ho, .ref l, H, I, rfl, q1 rfl⟩⟩)
  · exact op_repT pins s σ H _ _ v u Q I rx ry ⟨l, k, xs, rfl, rfl, hT, hne, by omega, h2, hz, q2 h3⟩
end

theorem seqT_grow {K : PySem.W.Frag} {H H' : Hp} {a : Addr} {xs : List V} (e : Same H H') (h : SqT K H a xs) : SqT K H' a xs := by
  rcases h with (h | ⟨o, h⟩) | h
  · exact .inl (.inl (e _ _ h))
  · exact .inl (.inr ⟨o, e _ _ h⟩)
  · exact .inr h
mutual
theorem dp_grow {K : PySem.W.Frag} {H H' : Hp} (e : Same H H') : ∀ {d : PyData} {v : V}, Dp K H v d → Dp K H' v d
  | .none, _, h => by cases h; exact .non
  | .bool b, _, h => by cases h; exact .bl b
  | .int i, _, h => by cases h; exact .int i
  | .str x, _, h => by cases h; exact .str x
  | .list ds, _, h => by
    cases h with
    | lst hs ha => exact .lst (e.seq hs) (dpAll_grow e ha)
  | .tuple ds, _, h => by
    cases h with
    | tup hs ha => exact .tup (seqT_grow e hs) (dpAll_grow e ha)
  | .dict _, _, h => by cases h
theorem dpAll_grow {K : PySem.W.Frag} {H H' : Hp} (e : Same H H') : ∀ {ds : List PyData} {vs : List V}, DpAll K H vs ds → DpAll K H' vs ds
  | [], _, h => by cases h; exact .nil
  | d :: ds, _, h => by
    cases h with
    | cons h1 h2 => exact .cons (dp_grow e h1) (dpAll_grow e h2)
end
theorem same_new {H : Hp} {p : Addr} {o : HO} (h : H p = none) : Same H (upd H p o) := fun b x e => by
  rw [upd_ne (ne_of_none e h)]
  exact e
end Ver
set_option Elab.async false
set_option linter.all false
set_option maxRecDepth 100000
set_option maxHeartbeats 2000000
namespace Ver
open PySem PySem.Spec PyProof.Rows L2
theorem wipe_one (σ : L2.St) (i : Nat) (v : Option V) : wipe ((wipe σ [i]).set i v) [i] = wipe σ [i] := by
  show (((σ.set i none).set i v).set i none) = σ.set i none
  rw [List.set_set, List.set_set]
def Turned (D : Addr) (S : List V → Hp → Prop) (n : Nat) : VK := fun y H4 => ∃ acc, H4 D = some (.lst acc) ∧ acc.length < sizeLine ∧ ∃ acc2, acc2.length = n + 1 ∧ S acc2 (upd H4 D (.lst (acc ++ [y]))) ∧ (upd H4 D (.lst (acc ++ [y]))) D = some (.lst acc2)
theorem turned {D : Addr} {S : List V → Hp → Prop} {acc : List V} {y : V} {H4 : Hp} (hD : H4 D = some (.lst acc)) (hz : acc.length < sizeLine) (s : S (acc ++ [y]) (upd H4 D (.lst (acc ++ [y])))) : Turned D S acc.length y H4 :=
  ⟨acc, hD, hz, acc ++ [y], by rw [List.length_append]; rfl, s, upd_same⟩
section
variable {K : PySem.W.Frag} {a : Addr} {xs : List V} {i : Nat} {te : TE} {σ : L2.St} {H1 : Hp} {D : Addr} {Qd : Hp → Prop}
theorem comp_tup (S : List V → Hp → Prop) (h0 : S [] (upd H1 D (.lst []))) (hl : ∀ acc H, S acc H → SqT K H a xs)
    (hs : ∀ acc x H, xs[acc.length]? = some x → S acc H → H D = some (.lst acc) → te ((wipe σ [i]).set i (some x)) H (Turned D S acc.length))
    (hd : ∀ acc H, acc.length = xs.length → S acc H → H D = some (.lst acc) → Qd H) :
    ∃ W : Nat → Nat → Hp → Prop, (∃ m, W 0 m (upd H1 D (.lst []))) ∧ ∀ j m H, W j m H →
      ((Itt K a).stop j H ∧ Qd H) ∨ ((Itt K a).go j H ∧ ∃ Nx : Hp → Prop, (∀ H', Nx H' → ∃ m', m' < m ∧ W (j + 1) m' H') ∧ ∀ x H', (Itt K a).yld j H x H' → gName i x (wipe σ [i]) H' fun σ2 H2 => wipe σ2 [i] = wipe σ [i] ∧ tYes σ2 H2 fun b H3 =>
        if b = true then te σ2 H3 fun y H4 => ∃ acc, H4 D = some (.lst acc) ∧ acc.length < sizeLine ∧ Nx (upd H4 D (.lst (acc ++ [y]))) else Nx H3) := by
  refine lc_tup (K := K) (a := a) (xs := xs) (fun n H => ∃ acc, acc.length = n ∧ S acc H ∧ H D = some (.lst acc)) ⟨[], rfl, h0, upd_same⟩ (fun n H _ ⟨acc, _, h, _⟩ => hl acc H h) (fun n x H e ⟨acc, hn, h, hD⟩ => ?_) (fun H ⟨acc, hn, h, hD⟩ => hd acc H hn h hD)
  subst hn
  refine ⟨wipe_one σ i _, ?_⟩
  unfold tYes
  dsimp only
  rw [if_pos rfl]
  exact hs acc x H e h hD
theorem comp_list (S : List V → Hp → Prop) (h0 : S [] (upd H1 D (.lst []))) (hl : ∀ acc H, S acc H → SqL K H a xs)
    (hs : ∀ acc x H, xs[acc.length]? = some x → S acc H → H D = some (.lst acc) → te ((wipe σ [i]).set i (some x)) H (Turned D S acc.length))
    (hd : ∀ acc H, acc.length = xs.length → S acc H → H D = some (.lst acc) → Qd H) :
    ∃ W : Nat → Nat → Hp → Prop, (∃ m, W 0 m (upd H1 D (.lst []))) ∧ ∀ j m H, W j m H →
      ((Itl K a).stop j H ∧ Qd H) ∨ ((Itl K a).go j H ∧ ∃ Nx : Hp → Prop, (∀ H', Nx H' → ∃ m', m' < m ∧ W (j + 1) m' H') ∧ ∀ x H', (Itl K a).yld j H x H' → gName i x (wipe σ [i]) H' fun σ2 H2 => wipe σ2 [i] = wipe σ [i] ∧ tYes σ2 H2 fun b H3 =>
        if b = true then te σ2 H3 fun y H4 => ∃ acc, H4 D = some (.lst acc) ∧ acc.length < sizeLine ∧ Nx (upd H4 D (.lst (acc ++ [y]))) else Nx H3) := by
  refine lc_list (K := K) (a := a) (xs := xs) (fun n H => ∃ acc, acc.length = n ∧ S acc H ∧ H D = some (.lst acc)) ⟨[], rfl, h0, upd_same⟩ (fun n H _ ⟨acc, _, h, _⟩ => hl acc H h) (fun n x H e ⟨acc, hn, h, hD⟩ => ?_) (fun H ⟨acc, hn, h, hD⟩ => hd acc H hn h hD)
  subst hn
  refine ⟨wipe_one σ i _, ?_⟩
  unfold tYes
  dsimp only
  rw [if_pos rfl]
  exact hs acc x H e h hD
theorem comp_range {n : Nat} (S : List V → Hp → Prop) (h0 : S [] (upd H1 D (.lst [])))
    (hs : ∀ acc H, acc.length < n → S acc H → H D = some (.lst acc) → te ((wipe σ [i]).set i (some (.int (acc.length : Int)))) H (Turned D S acc.length))
    (hd : ∀ acc H, acc.length = n → S acc H → H D = some (.lst acc) → Qd H) :
    ∃ W : Nat → Nat → Hp → Prop, (∃ m, W 0 m (upd H1 D (.lst []))) ∧ ∀ j m H, W j m H →
      ((Itr 0 n).stop j H ∧ Qd H) ∨ ((Itr 0 n).go j H ∧ ∃ Nx : Hp → Prop, (∀ H', Nx H' → ∃ m', m' < m ∧ W (j + 1) m' H') ∧ ∀ x H', (Itr 0 n).yld j H x H' → gName i x (wipe σ [i]) H' fun σ2 H2 => wipe σ2 [i] = wipe σ [i] ∧ tYes σ2 H2 fun b H3 =>
        if b = true then te σ2 H3 fun y H4 => ∃ acc, H4 D = some (.lst acc) ∧ acc.length < sizeLine ∧ Nx (upd H4 D (.lst (acc ++ [y]))) else Nx H3) := by
  refine lc_range (lo := 0) (n := n) (fun k H => ∃ acc, acc.length = k ∧ S acc H ∧ H D = some (.lst acc)) ⟨[], rfl, h0, upd_same⟩ (fun k H lt ⟨acc, hn, h, hD⟩ => ?_) (fun H ⟨acc, hn, h, hD⟩ => hd acc H hn h hD)
  subst hn
  rw [Int.zero_add]
  refine ⟨wipe_one σ i _, ?_⟩
  unfold tYes
  dsimp only
  rw [if_pos rfl]
  exact hs acc H lt h hD
end
theorem for_range0 {n : Nat} {g : TG} {tb : TS} {D : Ends} {σ : L2.St} {H : Hp} (Pv : Nat → L2.St → Hp → Prop) (h0 : Pv 0 σ H)
    (hs : ∀ i σ H, i < n → Pv i σ H → g (.int (i : Int)) σ H fun σ2 H2 => tb { D with nx := Pv (i + 1), ct := Pv (i + 1), bk := D.nx } σ2 H2) (hd : ∀ σ H, Pv n σ H → D.nx σ H) :
    ∃ W : Nat → Nat → L2.St → Hp → Prop, (∃ m, W 0 m σ H) ∧ ∀ i m σ H, W i m σ H →
      ((Itr 0 n).stop i H ∧ D.nx σ H) ∨ ((Itr 0 n).go i H ∧ ∃ N : L2.St → Hp → Prop, (∀ σ' H', N σ' H' → ∃ m', m' < m ∧ W (i + 1) m' σ' H') ∧ ∀ x H', (Itr 0 n).yld i H x H' → g x σ H' fun σ2 H2 => tb { D with nx := N, ct := N, bk := D.nx } σ2 H2) :=
  for_range (lo := 0) (n := n) Pv h0 (fun i σ H lt h => by rw [Int.zero_add]; exact hs i σ H lt h) hd
section
variable {X : Cx} {K : PySem.W.Frag}
def rLenQ (K : PySem.W.Frag) : List V → Hp → VK → Prop := fun xs H Q => ∃ p ys, xs = [.ref p] ∧ (SqL K H p ys ∨ SqT K H p ys) ∧ Q (.int ys.length) H
theorem cr_lenK (h : X.K = K) : CallR X (.builtin "len") (rLenQ K) := by
  subst h
  exact call_len_seq
theorem ix_tupK (h : X.K = K) : IxR X (rIxT K) := by
  subst h
  exact ix_tup
theorem ix_listK (h : X.K = K) : IxR X (rIxL K) := by
  subst h
  exact ix_list
end
section
variable {X : Cx} {K : PySem.W.Frag} {tg l : Expr} {tl : TE}
theorem pi_tupK (h : X.K = K) (hl : PE X l tl) : PI X tg l (iTup K tl) := by
  subst h
  exact pi_tup hl
theorem pi_listK (h : X.K = K) (hl : PE X l tl) : PI X tg l (iList K tl) := by
  subst h
  exact pi_list hl
theorem cr_minK (h : X.K = K) (hc : X.calm = true) : CallR X (.builtin "min") (rMin K) := by
  subst h
  exact cr_min hc
end
def lcScope : Expr → Scope
  | .ListComp _ _ sc _ => sc
  | _ => { kind := .function, names := [], isGenerator := false, isCoroutine := false }
def asgVal : Stmt → Expr
  | .Assign _ e _ => e
  | _ => .Constant .none 0 ⟨0, 0, 0, 0⟩
def SameBut1 (p : Addr) (H H' : Hp) : Prop := ∀ b o, b ≠ p → H b = some o → H' b = some o
theorem small {n : Nat} (h : n ≤ 100000) : n < sizeLine := Nat.lt_of_le_of_lt h (by decide)
theorem small' {n : Nat} (h : n ≤ 100000) : n ≤ sizeLine := Nat.le_of_lt (small h)
theorem dpAll_len {K : PySem.W.Frag} {H : Hp} : ∀ {vs : List V} {ds : List PyData}, DpAll K H vs ds → vs.length = ds.length
  | _, [], h => by cases h; rfl
  | _, d :: ds, h => by
    cases h with
    | cons _ t => rw [List.length_cons, List.length_cons, dpAll_len t]
theorem dpAll_get {K : PySem.W.Frag} {H : Hp} : ∀ {vs : List V} {ds : List PyData} {i : Nat} {v : V}, DpAll K H vs ds → vs[i]? = some v → ∃ d, ds[i]? = some d ∧ Dp K H v d
  | _, [], i, v, h, e => by cases h; simp at e
  | _, d :: ds, 0, v, h, e => by
    cases h with
    | cons h1 _ =>
      have e' := Option.some.inj e
      subst e'
      exact ⟨d, rfl, h1⟩
  | _, d :: ds, i + 1, v, h, e => by
    cases h with
    | cons _ t => exact dpAll_get (i := i) t e
theorem dpAll_get' {K : PySem.W.Frag} {H : Hp} : ∀ {vs : List V} {ds : List PyData} {i : Nat} {d : PyData}, DpAll K H vs ds → ds[i]? = some d → ∃ v, vs[i]? = some v ∧ Dp K H v d
  | _, [], i, d, h, e => by cases h; simp at e
  | _, d :: ds, 0, d', h, e => by
    cases h with
    | cons h1 _ =>
      have e' := Option.some.inj e
      subst e'
      exact ⟨_, rfl, h1⟩
  | _, d :: ds, i + 1, d', h, e => by
    cases h with
    | cons _ t => exact dpAll_get' (i := i) t e
theorem dpAll_ints {K : PySem.W.Frag} {H : Hp} : ∀ (ns : List Int), DpAll K H (ns.map V.int) (ns.map PyData.int)
  | [] => .nil
  | n :: ns => .cons (.int n) (dpAll_ints ns)
theorem isa_int (d : PyData) : isaD "int" d = match d with | .int _ => true | .bool _ => true | _ => false := by cases d <;> rfl
theorem isa_bool (d : PyData) : isaD "bool" d = match d with | .bool _ => true | _ => false := by cases d <;> rfl
theorem isa_str (d : PyData) : isaD "str" d = match d with | .str _ => true | _ => false := by cases d <;> rfl
theorem isa_tuple (d : PyData) : isaD "tuple" d = match d with | .tuple _ => true | _ => false := by cases d <;> rfl
theorem isa_list (d : PyData) : isaD "list" d = match d with | .list _ => true | _ => false := by cases d <;> rfl
end Ver
set_option Elab.async false
set_option linter.all false
set_option maxRecDepth 100000
set_option maxHeartbeats 2000000
namespace K58
open PySem PySem.Spec PyProof.Rows L2 Ver
def topS (i : Nat) : Stmt := PySem.Challenge.pw_stillends_k58_whole_rows_are_ways.main.body.getD i (.Pass ⟨0, 0, 0, 0⟩)
abbrev s_is_int : Stmt := topS 6
theorem sc_is_int : FnScope ["thing"] ["thing"] (defScope s_is_int) := ⟨rfl, rfl, rfl, by decide +kernel, rfl, by decide +kernel, by decide +kernel⟩
abbrev s_is_number : Stmt := topS 7
theorem sc_is_number : FnScope ["thing"] ["thing"] (defScope s_is_number) := ⟨rfl, rfl, rfl, by decide +kernel, rfl, by decide +kernel, by decide +kernel⟩
abbrev s_is_text : Stmt := topS 8
theorem sc_is_text : FnScope ["thing", "sign"] ["thing"] (defScope s_is_text) := ⟨rfl, rfl, rfl, by decide +kernel, rfl, by decide +kernel, by decide +kernel⟩
abbrev s__is_sign : Stmt := topS 9
theorem sc__is_sign : FnScope ["sign"] ["sign"] (defScope s__is_sign) := ⟨rfl, rfl, rfl, by decide +kernel, rfl, by decide +kernel, by decide +kernel⟩
abbrev s_is_below : Stmt := topS 13
theorem sc_is_below : FnScope ["thing", "bound"] ["thing", "bound"] (defScope s_is_below) := ⟨rfl, rfl, rfl, by decide +kernel, rfl, by decide +kernel, by decide +kernel⟩
abbrev s_are_below : Stmt := topS 14
theorem sc_are_below : FnScope ["thing", "bound", "part"] ["thing", "bound"] (defScope s_are_below) := ⟨rfl, rfl, rfl, by decide +kernel, rfl, by decide +kernel, by decide +kernel⟩
abbrev s_ask_row : Stmt := topS 15
theorem sc_ask_row : FnScope ["tokens", "row"] ["tokens", "row"] (defScope s_ask_row) := ⟨rfl, rfl, rfl, by decide +kernel, rfl, by decide +kernel, by decide +kernel⟩
abbrev s_ask_text : Stmt := topS 16
theorem sc_ask_text : FnScope ["text"] ["text"] (defScope s_ask_text) := ⟨rfl, rfl, rfl, by decide +kernel, rfl, by decide +kernel, by decide +kernel⟩
abbrev s_ask_below : Stmt := topS 17
theorem sc_ask_below : FnScope ["number", "bound", "word"] ["number", "bound", "word"] (defScope s_ask_below) := ⟨rfl, rfl, rfl, by decide +kernel, rfl, by decide +kernel, by decide +kernel⟩
abbrev s_state_after : Stmt := topS 19
theorem sc_state_after : FnScope ["book", "row", "table", "state", "token"] ["book", "row"] (defScope s_state_after) := ⟨rfl, rfl, rfl, by decide +kernel, rfl, by decide +kernel, by decide +kernel⟩
abbrev s_joined : Stmt := topS 21
theorem sc_joined : FnScope ["tokens", "row", "token"] ["tokens", "row"] (defScope s_joined) := ⟨rfl, rfl, rfl, by decide +kernel, rfl, by decide +kernel, by decide +kernel⟩
abbrev s_by_length : Stmt := topS 23
theorem sc_by_length : FnScope ["things"] ["things"] (defScope s_by_length) := ⟨rfl, rfl, rfl, by decide +kernel, rfl, by decide +kernel, by decide +kernel⟩
abbrev s_inner_texts : Stmt := topS 25
theorem sc_inner_texts : FnScope ["tokens", "found", "token", "k"] ["tokens"] (defScope s_inner_texts) := ⟨rfl, rfl, rfl, by decide +kernel, rfl, by decide +kernel, by decide +kernel⟩
abbrev s_token_numbers : Stmt := topS 26
theorem sc_token_numbers : FnScope ["tokens", "k", "token"] ["tokens"] (defScope s_token_numbers) := ⟨rfl, rfl, rfl, by decide +kernel, rfl, by decide +kernel, by decide +kernel⟩
abbrev s_spelled_on : Stmt := topS 27
theorem sc_spelled_on : FnScope ["tokens", "text", "inner", "numbers", "found", "ways", "token", "k"] ["tokens"] (defScope s_spelled_on) := ⟨rfl, rfl, rfl, by decide +kernel, rfl, by decide +kernel, by decide +kernel⟩
abbrev s_speller : Stmt := topS 29
theorem sc_speller : FnScope ["tokens", "book", "begun", "mode", "known", "places", "numbers", "finals", "arcs", "here", "k", "place", "letter", "there", "token"] ["tokens", "book", "begun", "mode"] (defScope s_speller) := ⟨rfl, rfl, rfl, by decide +kernel, rfl, by decide +kernel, by decide +kernel⟩
abbrev s__places_and_arcs : Stmt := topS 30
theorem sc__places_and_arcs : FnScope ["tokens", "book", "begun", "mode", "ways", "start", "known", "due", "place", "arcs", "arc", "there"] ["tokens", "book", "begun", "mode"] (defScope s__places_and_arcs) := ⟨rfl, rfl, rfl, by decide +kernel, rfl, by decide +kernel, by decide +kernel⟩
abbrev s__arcs_from : Stmt := topS 31
theorem sc__arcs_from : FnScope ["place", "ways", "table", "begun", "mode", "passed", "state", "written", "after", "arcs", "letter", "inner", "token"] ["place", "ways", "table", "begun", "mode"] (defScope s__arcs_from) := ⟨rfl, rfl, rfl, by decide +kernel, rfl, by decide +kernel, by decide +kernel⟩
abbrev s__is_final : Stmt := topS 32
theorem sc__is_final : FnScope ["place", "book", "begun", "passed", "state", "written"] ["place", "book", "begun"] (defScope s__is_final) := ⟨rfl, rfl, rfl, by decide +kernel, rfl, by decide +kernel, by decide +kernel⟩
abbrev s_place_behind : Stmt := topS 33
theorem sc_place_behind : FnScope ["tokens", "book", "begun", "mode", "row"] ["tokens", "book", "begun", "mode", "row"] (defScope s_place_behind) := ⟨rfl, rfl, rfl, by decide +kernel, rfl, by decide +kernel, by decide +kernel⟩
abbrev s_border_behind : Stmt := topS 34
theorem sc_border_behind : FnScope ["tokens", "book", "begun", "mode", "row", "state", "text", "passed"] ["tokens", "book", "begun", "mode", "row"] (defScope s_border_behind) := ⟨rfl, rfl, rfl, by decide +kernel, rfl, by decide +kernel, by decide +kernel⟩
abbrev s_priced : Stmt := topS 35
theorem sc_priced : FnScope ["tokens", "book", "begun", "mode", "places", "_", "arcs", "costs", "here", "letter", "there", "token"] ["tokens", "book", "begun", "mode"] (defScope s_priced) := ⟨rfl, rfl, rfl, by decide +kernel, rfl, by decide +kernel, by decide +kernel⟩
abbrev s_text_price : Stmt := topS 37
theorem sc_text_price : FnScope ["machine", "here", "there", "text", "count", "arcs", "steps", "prices", "letter"] ["machine", "here", "there", "text"] (defScope s_text_price) := ⟨rfl, rfl, rfl, by decide +kernel, rfl, by decide +kernel, by decide +kernel⟩
abbrev s_arcs_by_letter : Stmt := topS 38
theorem sc_arcs_by_letter : FnScope ["arcs", "steps", "here", "letter", "there", "price"] ["arcs"] (defScope s_arcs_by_letter) := ⟨rfl, rfl, rfl, by decide +kernel, rfl, by decide +kernel, by decide +kernel⟩
abbrev s__prices_behind : Stmt := topS 39
theorem sc__prices_behind : FnScope ["prices", "steps", "behind", "here", "before", "there", "price"] ["prices", "steps"] (defScope s__prices_behind) := ⟨rfl, rfl, rfl, by decide +kernel, rfl, by decide +kernel, by decide +kernel⟩
abbrev s__law_pick : Stmt := topS 41
theorem sc__law_pick : FnScope ["tape", "many", "queue", "cell", "digit"] ["tape", "many"] (defScope s__law_pick) := ⟨rfl, rfl, rfl, by decide +kernel, rfl, by decide +kernel, by decide +kernel⟩
abbrev s__law_joined : Stmt := topS 42
theorem sc__law_joined : FnScope ["tape", "tokens", "most", "text", "k"] ["tape", "tokens", "most"] (defScope s__law_joined) := ⟨rfl, rfl, rfl, by decide +kernel, rfl, by decide +kernel, by decide +kernel⟩
abbrev s__law_spoilt : Stmt := topS 43
theorem sc__law_spoilt : FnScope ["tape", "text", "letters", "most", "way", "letter", "at"] ["tape", "text", "letters", "most"] (defScope s__law_spoilt) := ⟨rfl, rfl, rfl, by decide +kernel, rfl, by decide +kernel, by decide +kernel⟩
abbrev s__law_tokens : Stmt := topS 44
theorem sc__law_tokens : FnScope ["tape", "letters", "tokens", "k", "word", "at", "way"] ["tape"] (defScope s__law_tokens) := ⟨rfl, rfl, rfl, by decide +kernel, rfl, by decide +kernel, by decide +kernel⟩
abbrev s__law_book : Stmt := topS 45
theorem sc__law_book : FnScope ["tape", "many", "count", "gaps", "table", "state", "row", "token", "gone", "finals"] ["tape", "many"] (defScope s__law_book) := ⟨rfl, rfl, rfl, by decide +kernel, rfl, by decide +kernel, by decide +kernel⟩
abbrev s__law_sum : Stmt := topS 46
theorem sc__law_sum : FnScope ["one", "other", "many", "k"] ["one", "other"] (defScope s__law_sum) := ⟨rfl, rfl, rfl, by decide +kernel, rfl, by decide +kernel, by decide +kernel⟩
abbrev s__law_own : Stmt := topS 47
theorem sc__law_own : FnScope ["tokens", "table", "begun", "healed", "ahead", "state", "text", "whole", "passed", "body", "inner", "token", "k", "found", "pile", "at", "here", "many", "place", "there"] ["tokens", "table", "begun", "healed", "ahead", "state", "text"] (defScope s__law_own) := ⟨rfl, rfl, rfl, by decide +kernel, rfl, by decide +kernel, by decide +kernel⟩
abbrev s__law_walk : Stmt := topS 48
theorem sc__law_walk : FnScope ["arcs", "start", "text", "now", "letter", "then", "arc", "row"] ["arcs", "start", "text"] (defScope s__law_walk) := ⟨rfl, rfl, rfl, by decide +kernel, rfl, by decide +kernel, by decide +kernel⟩
abbrev s__law_number : Stmt := topS 49
theorem sc__law_number : FnScope ["thing", "least", "below"] ["thing", "least", "below"] (defScope s__law_number) := ⟨rfl, rfl, rfl, by decide +kernel, rfl, by decide +kernel, by decide +kernel⟩
abbrev s__law_shape : Stmt := topS 50
theorem sc__law_shape : FnScope ["told", "many", "states", "part", "places", "finals", "arcs", "place", "number", "arc"] ["told", "many", "states"] (defScope s__law_shape) := ⟨rfl, rfl, rfl, by decide +kernel, rfl, by decide +kernel, by decide +kernel⟩
abbrev s__law_same : Stmt := topS 51
theorem sc__law_same : FnScope ["one", "other", "k"] ["one", "other"] (defScope s__law_same) := ⟨rfl, rfl, rfl, by decide +kernel, rfl, by decide +kernel, by decide +kernel⟩
abbrev s__law_agree : Stmt := topS 52
theorem sc__law_agree : FnScope ["tape", "machine", "places", "arcs", "start", "text", "own", "ways", "place", "asked", "q", "due", "least", "k", "again"] ["tape", "machine", "places", "arcs", "start", "text", "own"] (defScope s__law_agree) := ⟨rfl, rfl, rfl, by decide +kernel, rfl, by decide +kernel, by decide +kernel⟩
abbrev s__law_behind_row : Stmt := topS 53
theorem sc__law_behind_row : FnScope ["tape", "tokens", "book", "begun", "mode", "machine", "told", "letters", "row", "text", "state", "k", "token", "read", "passed", "due", "start", "q", "more", "own"] ["tape", "tokens", "book", "begun", "mode", "machine", "told", "letters"] (defScope s__law_behind_row) := ⟨rfl, rfl, rfl, by decide +kernel, rfl, by decide +kernel, by decide +kernel⟩
abbrev s_law : Stmt := topS 54
theorem sc_law : FnScope ["script", "tape", "letters", "tokens", "book", "mode", "base", "cut", "begun", "told", "places", "finals", "arcs", "ends", "machine", "due", "lap", "text", "own", "q", "arc", "cell"] ["script"] (defScope s_law) := ⟨rfl, rfl, rfl, by decide +kernel, rfl, by decide +kernel, by decide +kernel⟩
def kw_text_price {α : Type} : List α → List α | [a, b, c, d] => [d, c, b, a] | _ => []
theorem kwr_text_price {zs : List V} {ws : List Value} (r : Vals zs ws) : Vals (kw_text_price zs) (kw_text_price ws) := by
  rcases r with _ | ⟨h0, _ | ⟨h1, _ | ⟨h2, _ | ⟨h3, _ | ⟨hx, hy⟩⟩⟩⟩⟩
  all_goals first | exact .nil | exact .cons h3 (.cons h2 (.cons h1 (.cons h0 (.nil))))
structure Tx (K : PySem.W.Frag) (mg : Str → Option Value) where
  f_is_int : Addr
  d_is_int : FuncData
  F_is_int : Fun K "is_int" "is_int" s_is_int f_is_int d_is_int
  g_is_int : mg "is_int" = some (.ref f_is_int)
  b_is_int : Binds K d_is_int ["thing"] []
  f_is_number : Addr
  d_is_number : FuncData
  F_is_number : Fun K "is_number" "is_number" s_is_number f_is_number d_is_number
  g_is_number : mg "is_number" = some (.ref f_is_number)
  b_is_number : Binds K d_is_number ["thing"] []
  f_is_text : Addr
  d_is_text : FuncData
  F_is_text : Fun K "is_text" "is_text" s_is_text f_is_text d_is_text
  g_is_text : mg "is_text" = some (.ref f_is_text)
  b_is_text : Binds K d_is_text ["thing"] []
  f__is_sign : Addr
  d__is_sign : FuncData
  F__is_sign : Fun K "_is_sign" "_is_sign" s__is_sign f__is_sign d__is_sign
  g__is_sign : mg "_is_sign" = some (.ref f__is_sign)
  b__is_sign : Binds K d__is_sign ["sign"] []
  f_is_below : Addr
  d_is_below : FuncData
  F_is_below : Fun K "is_below" "is_below" s_is_below f_is_below d_is_below
  g_is_below : mg "is_below" = some (.ref f_is_below)
  b_is_below : Binds K d_is_below ["thing", "bound"] []
  f_are_below : Addr
  d_are_below : FuncData
  F_are_below : Fun K "are_below" "are_below" s_are_below f_are_below d_are_below
  g_are_below : mg "are_below" = some (.ref f_are_below)
  b_are_below : Binds K d_are_below ["thing", "bound"] []
  f_ask_row : Addr
  d_ask_row : FuncData
  F_ask_row : Fun K "ask_row" "ask_row" s_ask_row f_ask_row d_ask_row
  g_ask_row : mg "ask_row" = some (.ref f_ask_row)
  b_ask_row : Binds K d_ask_row ["tokens", "row"] []
  f_ask_text : Addr
  d_ask_text : FuncData
  F_ask_text : Fun K "ask_text" "ask_text" s_ask_text f_ask_text d_ask_text
  g_ask_text : mg "ask_text" = some (.ref f_ask_text)
  b_ask_text : Binds K d_ask_text ["text"] []
  f_ask_below : Addr
  d_ask_below : FuncData
  F_ask_below : Fun K "ask_below" "ask_below" s_ask_below f_ask_below d_ask_below
  g_ask_below : mg "ask_below" = some (.ref f_ask_below)
  b_ask_below : Binds K d_ask_below ["number", "bound", "word"] []
  f_state_after : Addr
  d_state_after : FuncData
  F_state_after : Fun K "state_after" "state_after" s_state_after f_state_after d_state_after
  g_state_after : mg "state_after" = some (.ref f_state_after)
  b_state_after : Binds K d_state_after ["book", "row"] []
  f_joined : Addr
  d_joined : FuncData
  F_joined : Fun K "joined" "joined" s_joined f_joined d_joined
  g_joined : mg "joined" = some (.ref f_joined)
  b_joined : Binds K d_joined ["tokens", "row"] []
  f_by_length : Addr
  d_by_length : FuncData
  F_by_length : Fun K "by_length" "by_length" s_by_length f_by_length d_by_length
  g_by_length : mg "by_length" = some (.ref f_by_length)
  b_by_length : Binds K d_by_length ["things"] []
  f_inner_texts : Addr
  d_inner_texts : FuncData
  F_inner_texts : Fun K "inner_texts" "inner_texts" s_inner_texts f_inner_texts d_inner_texts
  g_inner_texts : mg "inner_texts" = some (.ref f_inner_texts)
  b_inner_texts : Binds K d_inner_texts ["tokens"] []
  f_token_numbers : Addr
  d_token_numbers : FuncData
  F_token_numbers : Fun K "token_numbers" "token_numbers" s_token_numbers f_token_numbers d_token_numbers
  g_token_numbers : mg "token_numbers" = some (.ref f_token_numbers)
  b_token_numbers : Binds K d_token_numbers ["tokens"] []
  f_spelled_on : Addr
  d_spelled_on : FuncData
  F_spelled_on : Fun K "spelled_on" "spelled_on" s_spelled_on f_spelled_on d_spelled_on
  g_spelled_on : mg "spelled_on" = some (.ref f_spelled_on)
  b_spelled_on : Binds K d_spelled_on ["tokens"] []
  f_speller : Addr
  d_speller : FuncData
  F_speller : Fun K "speller" "speller" s_speller f_speller d_speller
  g_speller : mg "speller" = some (.ref f_speller)
  b_speller : Binds K d_speller ["tokens", "book", "begun", "mode"] []
  f__places_and_arcs : Addr
  d__places_and_arcs : FuncData
  F__places_and_arcs : Fun K "_places_and_arcs" "_places_and_arcs" s__places_and_arcs f__places_and_arcs d__places_and_arcs
  g__places_and_arcs : mg "_places_and_arcs" = some (.ref f__places_and_arcs)
  b__places_and_arcs : Binds K d__places_and_arcs ["tokens", "book", "begun", "mode"] []
  f__arcs_from : Addr
  d__arcs_from : FuncData
  F__arcs_from : Fun K "_arcs_from" "_arcs_from" s__arcs_from f__arcs_from d__arcs_from
  g__arcs_from : mg "_arcs_from" = some (.ref f__arcs_from)
  b__arcs_from : Binds K d__arcs_from ["place", "ways", "table", "begun", "mode"] []
  f__is_final : Addr
  d__is_final : FuncData
  F__is_final : Fun K "_is_final" "_is_final" s__is_final f__is_final d__is_final
  g__is_final : mg "_is_final" = some (.ref f__is_final)
  b__is_final : Binds K d__is_final ["place", "book", "begun"] []
  f_place_behind : Addr
  d_place_behind : FuncData
  F_place_behind : Fun K "place_behind" "place_behind" s_place_behind f_place_behind d_place_behind
  g_place_behind : mg "place_behind" = some (.ref f_place_behind)
  b_place_behind : Binds K d_place_behind ["tokens", "book", "begun", "mode", "row"] []
  f_border_behind : Addr
  d_border_behind : FuncData
  F_border_behind : Fun K "border_behind" "border_behind" s_border_behind f_border_behind d_border_behind
  g_border_behind : mg "border_behind" = some (.ref f_border_behind)
  b_border_behind : Binds K d_border_behind ["tokens", "book", "begun", "mode", "row"] []
  f_priced : Addr
  d_priced : FuncData
  F_priced : Fun K "priced" "priced" s_priced f_priced d_priced
  g_priced : mg "priced" = some (.ref f_priced)
  b_priced : Binds K d_priced ["tokens", "book", "begun", "mode"] []
  f_text_price : Addr
  d_text_price : FuncData
  F_text_price : Fun K "text_price" "text_price" s_text_price f_text_price d_text_price
  g_text_price : mg "text_price" = some (.ref f_text_price)
  b_text_price : Binds K d_text_price ["machine", "here", "there", "text"] []
  f_arcs_by_letter : Addr
  d_arcs_by_letter : FuncData
  F_arcs_by_letter : Fun K "arcs_by_letter" "arcs_by_letter" s_arcs_by_letter f_arcs_by_letter d_arcs_by_letter
  g_arcs_by_letter : mg "arcs_by_letter" = some (.ref f_arcs_by_letter)
  b_arcs_by_letter : Binds K d_arcs_by_letter ["arcs"] []
  f__prices_behind : Addr
  d__prices_behind : FuncData
  F__prices_behind : Fun K "_prices_behind" "_prices_behind" s__prices_behind f__prices_behind d__prices_behind
  g__prices_behind : mg "_prices_behind" = some (.ref f__prices_behind)
  b__prices_behind : Binds K d__prices_behind ["prices", "steps"] []
  f__law_pick : Addr
  d__law_pick : FuncData
  F__law_pick : Fun K "_law_pick" "_law_pick" s__law_pick f__law_pick d__law_pick
  g__law_pick : mg "_law_pick" = some (.ref f__law_pick)
  b__law_pick : Binds K d__law_pick ["tape", "many"] []
  f__law_joined : Addr
  d__law_joined : FuncData
  F__law_joined : Fun K "_law_joined" "_law_joined" s__law_joined f__law_joined d__law_joined
  g__law_joined : mg "_law_joined" = some (.ref f__law_joined)
  b__law_joined : Binds K d__law_joined ["tape", "tokens", "most"] []
  f__law_spoilt : Addr
  d__law_spoilt : FuncData
  F__law_spoilt : Fun K "_law_spoilt" "_law_spoilt" s__law_spoilt f__law_spoilt d__law_spoilt
  g__law_spoilt : mg "_law_spoilt" = some (.ref f__law_spoilt)
  b__law_spoilt : Binds K d__law_spoilt ["tape", "text", "letters", "most"] []
  f__law_tokens : Addr
  d__law_tokens : FuncData
  F__law_tokens : Fun K "_law_tokens" "_law_tokens" s__law_tokens f__law_tokens d__law_tokens
  g__law_tokens : mg "_law_tokens" = some (.ref f__law_tokens)
  b__law_tokens : Binds K d__law_tokens ["tape"] []
  f__law_book : Addr
  d__law_book : FuncData
  F__law_book : Fun K "_law_book" "_law_book" s__law_book f__law_book d__law_book
  g__law_book : mg "_law_book" = some (.ref f__law_book)
  b__law_book : Binds K d__law_book ["tape", "many"] []
  f__law_sum : Addr
  d__law_sum : FuncData
  F__law_sum : Fun K "_law_sum" "_law_sum" s__law_sum f__law_sum d__law_sum
  g__law_sum : mg "_law_sum" = some (.ref f__law_sum)
  b__law_sum : Binds K d__law_sum ["one", "other"] []
  f__law_own : Addr
  d__law_own : FuncData
  F__law_own : Fun K "_law_own" "_law_own" s__law_own f__law_own d__law_own
  g__law_own : mg "_law_own" = some (.ref f__law_own)
  b__law_own : Binds K d__law_own ["tokens", "table", "begun", "healed", "ahead", "state", "text"] []
  f__law_walk : Addr
  d__law_walk : FuncData
  F__law_walk : Fun K "_law_walk" "_law_walk" s__law_walk f__law_walk d__law_walk
  g__law_walk : mg "_law_walk" = some (.ref f__law_walk)
  b__law_walk : Binds K d__law_walk ["arcs", "start", "text"] []
  f__law_number : Addr
  d__law_number : FuncData
  F__law_number : Fun K "_law_number" "_law_number" s__law_number f__law_number d__law_number
  g__law_number : mg "_law_number" = some (.ref f__law_number)
  b__law_number : Binds K d__law_number ["thing", "least", "below"] []
  f__law_shape : Addr
  d__law_shape : FuncData
  F__law_shape : Fun K "_law_shape" "_law_shape" s__law_shape f__law_shape d__law_shape
  g__law_shape : mg "_law_shape" = some (.ref f__law_shape)
  b__law_shape : Binds K d__law_shape ["told", "many", "states"] []
  f__law_same : Addr
  d__law_same : FuncData
  F__law_same : Fun K "_law_same" "_law_same" s__law_same f__law_same d__law_same
  g__law_same : mg "_law_same" = some (.ref f__law_same)
  b__law_same : Binds K d__law_same ["one", "other"] []
  f__law_agree : Addr
  d__law_agree : FuncData
  F__law_agree : Fun K "_law_agree" "_law_agree" s__law_agree f__law_agree d__law_agree
  g__law_agree : mg "_law_agree" = some (.ref f__law_agree)
  b__law_agree : Binds K d__law_agree ["tape", "machine", "places", "arcs", "start", "text", "own"] []
  f__law_behind_row : Addr
  d__law_behind_row : FuncData
  F__law_behind_row : Fun K "_law_behind_row" "_law_behind_row" s__law_behind_row f__law_behind_row d__law_behind_row
  g__law_behind_row : mg "_law_behind_row" = some (.ref f__law_behind_row)
  b__law_behind_row : Binds K d__law_behind_row ["tape", "tokens", "book", "begun", "mode", "machine", "told", "letters"] []
  f_law : Addr
  d_law : FuncData
  F_law : Fun K "law" "law" s_law f_law d_law
  g_law : mg "law" = some (.ref f_law)
  b_law : Binds K d_law ["script"] []
  k_text_price : KBn K d_text_price ["machine", "here", "there", "text"] 0 ["text", "there", "here", "machine"] (fun _ ws => kw_text_price ws) (fun _ zs => kw_text_price zs)
  c__PERCENT : ∃ t, mg "_PERCENT" = some (.int (37) t)
  c_ROW_LIMIT : ∃ t, mg "ROW_LIMIT" = some (.int (60) t)
  c_TEXT_LIMIT : ∃ t, mg "TEXT_LIMIT" = some (.int (1200) t)
  n_all : mg "all" = none
  n_bool : mg "bool" = none
  n_enumerate : mg "enumerate" = none
  n_int : mg "int" = none
  n_isinstance : mg "isinstance" = none
  n_len : mg "len" = none
  n_list : mg "list" = none
  n_max : mg "max" = none
  n_min : mg "min" = none
  n_ord : mg "ord" = none
  n_range : mg "range" = none
  n_sorted : mg "sorted" = none
  n_str : mg "str" = none
  n_sum : mg "sum" = none
  n_tuple : mg "tuple" = none
  C_NotUsable : Addr
  I_NotUsable : Addr
  nus : PySem.NUsX.NUsTxt K mg C_NotUsable I_NotUsable
end K58
set_option Elab.async false
set_option linter.all false
set_option maxRecDepth 100000
set_option maxHeartbeats 2000000
namespace K58
open PySem PySem.Spec PyProof.Rows L2 Ver
section
variable {P : Program} {w : World} {K : PySem.W.Frag} {mg : Str → Option Value} {base : Heap}
def isIntD : PyData → Bool | .int _ => true | _ => false
def numD : PyData → Bool | .int i => decide (0 ≤ i) | _ => false
def belowD (b : Int) : PyData → Bool | .int i => decide (0 ≤ i) && decide (i < b) | _ => false
def allBelow (b : Int) : PyData → Bool | .tuple ds => ds.all (belowD b) | _ => false
def rowD (n : Nat) : PyData → Bool | .tuple ds => ds.all (belowD n) && decide (ds.length ≤ 60) | _ => false
def lenD : PyData → Nat | .tuple ds => ds.length | .list ds => ds.length | _ => 0
def shortD : PyData → Bool | .int i => decide (0 ≤ i) && decide (i ≤ 60) | _ => false
def Refuses (C : Addr) (E : XK) (H : Hp) (z : Str) : Prop := ∀ H' dd, Same H H' → H' dd = none → E (.ref C) (some dd) (upd H' dd (.xd [("word", .str z)]))

def sp_is_int (K : PySem.W.Frag) : Sp := fun vs H Q _ => ∃ x d, vs = [x] ∧ Dp K H x d ∧ Q (.bl (isIntD d)) H
theorem ok_is_int (T : Tx K mg) : FnOk P w K mg base CX0 1 T.f_is_int T.d_is_int ["thing"] (sp_is_int K) := by
  refine T.F_is_int.ok sc_is_int (fun vs H Q E h => ?_) (fun cdv A outer s H vs Q E hr h => ?_)
  · obtain ⟨x, d, rfl, _⟩ := h; rfl
  · obtain ⟨x, d, rfl, hd, q⟩ := h
    refine ⟨_, (pss_one (ps_ret (pe_and (pe_callB (cr_isiD (n := "int") (by decide)) (by rfl) T.n_isinstance (by decide +kernel) (pa_cons (pv 0) (pa_cons (pe_bltn (v := .ty "int") (by rfl) T.n_int (by decide +kernel) rfl) pa_nil))) (pe_one (pe_not (pe_callB (cr_isiD (n := "bool") (by decide)) (by rfl) T.n_isinstance (by decide +kernel) (pa_cons (pv 0) (pa_cons (pe_bltn (v := .ty "bool") (by rfl) T.n_bool (by decide +kernel) rfl) pa_nil)))))))), ?_⟩
    refine ⟨x, rfl, x, d, rfl, hd, _, rfl, ?_⟩
    rw [isa_int]
    cases d
    case int i => exact ⟨x, rfl, x, .int i, rfl, hd, _, rfl, q⟩
    case bool b => exact ⟨x, rfl, x, .bool b, rfl, hd, _, rfl, q⟩
    all_goals exact q

def sp_is_number (K : PySem.W.Frag) : Sp := fun vs H Q _ => ∃ x d, vs = [x] ∧ Dp K H x d ∧ Q (.bl (numD d)) H
theorem ok_is_number (T : Tx K mg) : FnOk P w K mg base CX0 2 T.f_is_number T.d_is_number ["thing"] (sp_is_number K) := by
  refine T.F_is_number.ok sc_is_number (fun vs H Q E h => ?_) (fun cdv A outer s H vs Q E hr h => ?_)
  · obtain ⟨x, d, rfl, _⟩ := h; rfl
  · obtain ⟨x, d, rfl, hd, q⟩ := h
    refine ⟨_, (pss_one (ps_ret (pe_and (pe_call (ok_is_int T) hr rfl T.g_is_int T.F_is_int.kp T.b_is_int .nil pass0 (pa_cons (pv 0) pa_nil)) (pe_one (pe_cmpR op_ge (pv 0) pe_int (nomark _)))))), ?_⟩
    refine ⟨x, rfl, x, d, rfl, hd, _, rfl, ?_⟩
    cases d
    case int i =>
      cases hd
      exact ⟨.int i, rfl, i, 0, rfl, rfl, q⟩
    all_goals exact q

def sp_is_below (K : PySem.W.Frag) : Sp := fun vs H Q _ => ∃ x d b, vs = [x, .int b] ∧ Dp K H x d ∧ Q (.bl (belowD b d)) H
theorem ok_is_below (T : Tx K mg) : FnOk P w K mg base CX0 3 T.f_is_below T.d_is_below ["thing", "bound"] (sp_is_below K) := by
  refine T.F_is_below.ok sc_is_below (fun vs H Q E h => ?_) (fun cdv A outer s H vs Q E hr h => ?_)
  · obtain ⟨x, d, b, rfl, _⟩ := h; rfl
  · obtain ⟨x, d, b, rfl, hd, q⟩ := h
    refine ⟨_, (pss_one (ps_ret (pe_and (pe_call (ok_is_number T) hr rfl T.g_is_number T.F_is_number.kp T.b_is_number .nil pass0 (pa_cons (pv 0) pa_nil)) (pe_one (pe_cmpR op_lt (pv 0) (pv 1) (nomark _)))))), ?_⟩
    refine ⟨x, rfl, x, d, rfl, hd, _, rfl, ?_⟩
    cases d
    case int i =>
      cases hd
      show if decide (0 ≤ i) = true then _ else _
      refine ite2 (fun e => ⟨.int i, rfl, .int b, rfl, i, b, rfl, rfl, ?_⟩) (fun e => ?_)
      · have q' : Q (.bl (decide (0 ≤ i) && decide (i < b))) H := q
        rw [e, Bool.true_and] at q'
        exact q'
      · have q' : Q (.bl (decide (0 ≤ i) && decide (i < b))) H := q
        rw [Bool.eq_false_iff.mpr e, Bool.false_and] at q'
        exact q'
    all_goals exact q

def sp_are_below (K : PySem.W.Frag) : Sp := fun vs H Q _ => ∃ x d b, vs = [x, .int b] ∧ Dp K H x d ∧ lenD d ≤ 1000 ∧ ∀ H', Same H H' → Q (.bl (allBelow b d)) H'
theorem ok_are_below (T : Tx K mg) : FnOk P w K mg base CX0 4 T.f_are_below T.d_are_below ["thing", "bound"] (sp_are_below K) := by
  refine T.F_are_below.ok sc_are_below (fun vs H Q E h => ?_) (fun cdv A outer s H vs Q E hr h => ?_)
  · obtain ⟨x, d, b, rfl, _⟩ := h; rfl
  · obtain ⟨x, d, b, rfl, hd, hz, q⟩ := h
    refine ⟨_, (pss_one (ps_ret (pe_and (pe_callB (cr_isiD (n := "tuple") (by decide)) (by rfl) T.n_isinstance (by decide +kernel) (pa_cons (pv 0) (pa_cons (pe_bltn (v := .ty "tuple") (by rfl) T.n_tuple (by decide +kernel) rfl) pa_nil))) (pe_one (pe_callB (cr_all rfl) (by rfl) T.n_all (by decide +kernel) (pa_cons (pe_lc (own := [("part", 2)]) (g := gName 2) (tt := tYes) (by rfl) sc_are_below.nd (pi_tup (pv 0)) (blkOk_by (N := ["thing", "bound", "part"]) (sc := defScope s_are_below) (by decide +kernel)) (fun _ _ _ _ _ => (pg_name (i := 2) sc_are_below.nd rfl (Or.inl rfl))) (fun _ _ _ _ _ => pts_nil) (fun _ _ _ _ _ => (pe_call (ok_is_below T) hr rfl T.g_is_below T.F_is_below.kp T.b_is_below .nil pass0 (pa_cons (pv 2) (pa_cons (pv 1) pa_nil))))) pa_nil)))))), ?_⟩
    refine ⟨x, rfl, x, d, rfl, hd, _, rfl, ?_⟩
    rw [isa_tuple]
    cases d
    case tuple ds =>
      obtain ⟨a, xs, rfl, hs, ha⟩ : ∃ a xs, x = .ref a ∧ SqT K H a xs ∧ DpAll K H xs ds := by
        cases hd with
        | tup hs ha => exact ⟨_, _, rfl, hs, ha⟩
      refine ⟨.ref a, rfl, a, rfl, ⟨_, hs⟩, fun D nD => ?_⟩
      have sm : Same H (upd H D (.lst [])) := same_new nD
      refine comp_tup (K := K) (a := a) (xs := xs) (i := 2) (fun acc H' => Same H H' ∧ acc = ((ds.take acc.length).map fun d => V.bl (belowD b d))) ⟨sm, rfl⟩ (fun acc H' h => seqT_grow h.1 hs) (fun acc y H' e h hD => ?_) (fun acc H' e h hD => ?_)
      · obtain ⟨d', e', hd'⟩ := dpAll_get ha e
        refine ⟨y, rfl, .int b, rfl, y, d', b, rfl, dp_grow h.1 hd', ?_⟩
        have lt : acc.length < xs.length := (List.getElem?_eq_some_iff.mp e).1
        refine turned hD (small (by have h1 := dpAll_len ha; have h2 : ds.length ≤ 1000 := hz; omega)) ⟨fun c o ec => ?_, ?_⟩
        · rw [upd_ne (ne_of_none ec nD)]
          exact h.1 c o ec
        · rw [List.length_append, List.length_singleton, List.take_add_one, e', List.map_append, ← h.2]
          rfl
      · refine ⟨D, (ds.map (belowD b)), rfl, .inl (.inl ?_), ?_⟩
        · rw [hD, h.2, e, dpAll_len ha, List.take_length, List.map_map]
          rfl
        · have e2 : (ds.map (belowD b)).all id = ds.all (belowD b) := by rw [List.all_map]; rfl
          rw [e2]
          exact q H' h.1
    all_goals exact q H (Same.refl H)

def sp_ask_row (K : PySem.W.Frag) (C : Addr) : Sp := fun vs H Q E => ∃ t ts x d, vs = [.ref t, x] ∧ SqT K H t ts ∧ Dp K H x d ∧ lenD d ≤ 1000 ∧ (rowD ts.length d = true → ∀ H', Same H H' → Q .non H') ∧ (rowD ts.length d = false → Refuses C E H "row")
theorem ok_ask_row (T : Tx K mg) : FnOk P w K mg base (L2.CX P w) 5 T.f_ask_row T.d_ask_row ["tokens", "row"] (sp_ask_row K T.C_NotUsable) := by
  refine T.F_ask_row.okX sc_ask_row (fun vs H Q E h => ?_) (fun cdv A outer s H vs Q E hr h => ?_)
  · obtain ⟨t, ts, x, d, rfl, _⟩ := h; rfl
  · obtain ⟨t, ts, x, d, rfl, hT, hd, hz, q1, q2⟩ := h
    refine ⟨_, (pss_one (ps_if (PW.pt (pw_or (pt_not (pt_val (pe_call (ok_are_below T) hr rfl T.g_are_below T.F_are_below.kp T.b_are_below .nil pass0 (pa_cons (pv 1) (pa_cons (pe_callB call_len_seq (by rfl) T.n_len (by decide +kernel) (pa_cons (pv 0) pa_nil)) pa_nil))))) (pw_or1 (pt_cmpR op_gt (pe_callB call_len_seq (by rfl) T.n_len (by decide +kernel) (pa_cons (pv 1) pa_nil)) (pe_glob (v := .int (60)) rfl T.c_ROW_LIMIT.choose_spec ⟨_, rfl⟩) (nomark _))))) (pss_one (ps_raiseNus rfl T.nus hr (takes_of rfl rfl rfl rfl) (pa_cons pe_str pa_nil))) pss_nil)), ?_⟩
    refine ⟨x, rfl, .ref t, rfl, t, ts, rfl, .inr hT, x, d, _, rfl, hd, hz, fun H' sm => ?_⟩
    refine ⟨_, rfl, ?_⟩
    have no : rowD ts.length d = false → ∀ H2, Same H H2 → ∀ dd, H2 dd = none → E (.ref T.C_NotUsable) (some dd) (upd H2 dd (.xd [("word", .str "row")])) := fun e H2 s2 dd n => q2 e H2 dd s2 n
    cases d
    case tuple ds =>
      obtain ⟨a, xs, rfl, hs, ha⟩ : ∃ a xs, x = .ref a ∧ SqT K H a xs ∧ DpAll K H xs ds := by
        cases hd with
        | tup hs ha => exact ⟨_, _, rfl, hs, ha⟩
      have el := dpAll_len ha
      show if (!(ds.all (belowD ts.length))) = true then _ else _
      cases e : ds.all (belowD ts.length) with
      | false =>
        have er : rowD ts.length (.tuple ds) = false := by show (ds.all (belowD ts.length) && _) = false; rw [e]; rfl
        exact ⟨_, rfl, fun dd n => no er H' sm dd n⟩
      | true =>
        refine ⟨.ref a, rfl, a, xs, rfl, .inr (seqT_grow sm hs), xs.length, 60, rfl, rfl, _, rfl, ?_⟩
        by_cases h60 : xs.length ≤ 60
        · have er : rowD ts.length (.tuple ds) = true := by show (ds.all (belowD ts.length) && decide (ds.length ≤ 60)) = true; rw [e, ← el, decide_eq_true h60]; rfl
          rw [decide_eq_false (by omega)]
          exact q1 er H' sm
        · have er : rowD ts.length (.tuple ds) = false := by show (ds.all (belowD ts.length) && decide (ds.length ≤ 60)) = false; rw [e, ← el, decide_eq_false h60]; rfl
          rw [decide_eq_true (by omega)]
          exact ⟨_, rfl, fun dd n => no er H' sm dd n⟩
    all_goals exact ⟨_, rfl, fun dd n => no rfl H' sm dd n⟩
end
end K58
set_option Elab.async false
set_option linter.all false
set_option maxRecDepth 100000
set_option maxHeartbeats 4000000
namespace PySem
open Sem (wp)
open AutoSeq1 (wpAny_loadPart')
theorem meets_enum_new1 {v : Value} {o : Obj} {H : Heap → Prop} (B : Begins v o H) :
    Meets (Builtin.«enumerate.__new__» ⟨[.type "enumerate", v], []⟩) (fun _ R s => H s.heap ∧
      R (.ok (.ret (.ref (s.heap.push o).objs.size))) { s with heap := (s.heap.push o).push { cls := .type "enumerate", data := .fields #[.none, .bool false, .ref s.heap.objs.size, rawInt 0, .none, .none] } }) :=
  .of_wp fun prog w A R s h => by
    obtain ⟨hp, g, d, tk, os⟩ := s; obtain ⟨h1, h⟩ := h
    have hsub := sub_enumerate
    have q1 : ∀ {A' : Around} {E : Value → Shared → Prop} {Q : Value → Shared → Prop}, Q (.ref hp.objs.size) ⟨hp.push o, g, d, tk, os⟩ → wpAny (model prog w) A' (pyIter v) Q E ⟨hp, g, d, tk, os⟩ :=
      fun q => B.iter prog w _ _ ⟨hp, g, d, tk, os⟩ _ h1 q
    wp_walk using q1
    refine wpAny_stack_any fun st => wpAny_pure ?_
    split
    · rename_i c _ _ _ _ _
      cases (c == Value.type "enumerate")
      · wp_walk using q1
        exact ⟨_, rfl, h⟩
      · wp_walk using q1
        exact ⟨_, rfl, h⟩
    · wp_walk using q1
      exact ⟨_, rfl, h⟩
theorem enum_begins1 {prog : Program} {w : World} {A : Around} {E : Value → Shared → Prop} {s : Shared} {v : Value} {o : Obj} {H : Heap → Prop} {Q : Value → Shared → Prop} (B : Begins v o H) (h1 : H s.heap)
    (h : ∀ h', IsEnum h' (s.heap.objs.size + 1) s.heap.objs.size 0 .none → h'.get? s.heap.objs.size = some o → h'.objs.size = s.heap.objs.size + 2 →
      (∀ b o, s.heap.get? b = some o → h'.get? b = some o) → Q (.ref (s.heap.objs.size + 1)) { s with heap := h' }) :
    wpAny (model prog w) A (call (.type "enumerate") [v]) Q E s := by
  refine callType_new F.called_enumerate (by decide) (F.typeCall_enumerate_1 _) (F.newCall_enumerate_1 _) (fun obj => F.args_object_init_2 obj _) F.entry_enumerate_new
    (meets_enum_new1 B) ⟨h1, ?_⟩
  have hz : (s.heap.push o).objs.size = s.heap.objs.size + 1 := Heap.size_push ..
  show _ ∧ _
  rw [hz]
  have he : IsEnum ((s.heap.push o).push { cls := .type "enumerate", data := .fields #[.none, .bool false, .ref s.heap.objs.size, rawInt 0, .none, .none] }) (s.heap.objs.size + 1) s.heap.objs.size 0 .none := by
    have := Heap.get?_push_size (s.heap.push o) (o := { cls := .type "enumerate", data := .fields #[.none, .bool false, .ref s.heap.objs.size, rawInt 0, .none, .none] }) rfl
    rw [hz] at this; exact this
  refine ⟨⟨_, he, rfl⟩, h _ he (Heap.get?_push_of_some _ (Heap.get?_push_size _ B.free)) (by rw [Heap.size_push, hz]) fun b o x => Heap.get?_push_of_some _ (Heap.get?_push_of_some _ x)⟩
end PySem
namespace Ver
open PySem PySem.Spec PyProof.Rows L2
def Itet (K : PySem.W.Frag) (a : Addr) : It :=
  ⟨fun i H => ∃ (xs : List V) (x : V), SqT K H a xs ∧ xs[i]? = some x, fun i H v H' => ∃ T x, v = .ref T ∧ H T = none ∧ H' = upd H T (.tup [.int (i : Nat), x]) ∧ ∀ xs, SqT K H a xs → xs[i]? = some x, fun i H => ∃ xs : List V, SqT K H a xs ∧ xs.length ≤ i⟩
theorem turn_enumT {P : Program} {w : World} {K : PySem.W.Frag} {elts : List Expr} {kk : Nat} {tpos : Pos} (a e it : Addr) :
    Turn P w K (.Tuple elts kk tpos) (Itet K a) [e, it] e (fun i h => (∃ old, IsEnum h e it ((i : Nat) : Int) old) ∧ h.IsTupleIter it a i ∧ e ≠ it) where
  mem := by simp
  obj := fun i h st b hb => by
    obtain ⟨⟨old, he⟩, ⟨o, ho, hc, hd⟩, _⟩ := st
    have e' : b = e ∨ b = it := by simpa using hb
    rcases e' with z | z
    · rw [z]; exact ⟨_, he, fun v q => nomatch q⟩
    · rw [z]; exact ⟨o, ho, fun v q => by rw [hd] at q; cases q⟩
  keep := fun i h h' st k => let ⟨⟨old, he⟩, hi, hne⟩ := st; ⟨⟨old, k e (by simp) _ he⟩, hi.at fun o q => k it (by simp) o q, hne⟩
  item := by
    intro X hP hw hK hc i pins s σ H E I hf st hg
    subst hP hw hK
    obtain ⟨⟨old, he⟩, hit, hne⟩ := st
    obtain ⟨xs, x, hq, hx⟩ := hg
    obtain ⟨its, rv, p, hz⟩ := I.tuple hq
    obtain ⟨u, hu, ru⟩ := rv.get hx
    have hel : e < s.heap.objs.size := Heap.lt_size he
    have hil : it < s.heap.objs.size := by obtain ⟨_, q, _⟩ := hit; exact Heap.lt_size q
    have nea : e ≠ a := fun z => by
      obtain ⟨o, ho, hc, _⟩ := p
      rw [← z, he] at ho
      cases ho
      injection hc with hc
      exact absurd hc (by decide)
    have nia : a ≠ it := fun z => by
      obtain ⟨o, ho, hc, _⟩ := p
      obtain ⟨o', ho', hc', _⟩ := hit
      rw [z, ho'] at ho
      cases ho
      rw [hc'] at hc
      injection hc with hc
      exact absurd hc (by decide)
    have hi : i < its.toArray.size := by
      have := (List.getElem?_eq_some_iff.mp hu).1
      simpa using this
    refine wpAny_pyNext_enum_itemD (Draws.tuple (A := X.A.in1) (I.ok.hd hc) it a nia its.toArray) he ⟨hit, p⟩ hi hne (by simp [hne, nea]) fun x' h' tk hx' ho hst' hT hsz hk => ?_
    obtain rfl : u = x' := by
      have z : its.toArray[i]? = some x' := hx'
      have z2 : its[i]? = some x' := by simpa using z
      rw [hu] at z2
      exact Option.some.inj z2
    refine ⟨_, rfl, wpAny_letOwnedTupleGo_enum (s := { s with heap := h', toks := tk + 1 }) ho fun h'' he' sb => ?_⟩
    have hT2 : h''.get? s.heap.objs.size = some { cls := .type "tuple", data := .seq #[.int i tk, u] } := (sb.2 _ (Nat.ne_of_gt hel)).trans hT
    have new : ObjOk X.prog X.w (upd H s.heap.objs.size (.tup [.int (i : Nat), x])) h'' s.heap.objs.size (.tup [.int (i : Nat), x]) :=
      ⟨by show 2 ≤ sizeLine; decide, [.int i tk, u], .cons ⟨_, rfl⟩ (.cons ru .nil), ⟨_, hT2, rfl, _, rfl⟩⟩
    have I1 : Inv X pins σ (upd H s.heap.objs.size (.tup [.int (i : Nat), x])) { s with heap := h'', toks := tk + 1 } :=
      I.turnedNew (ch := [e, it]) (fun b ob hb q => (sb.2 b (fun z => hb (by simp [z]))).trans (hk b ob (fun z => hb (by simp [z])) (fun z => hb (by simp [z])) q)) hf (Nat.le_refl _) new
    refine ⟨.ref s.heap.objs.size, _, I1, rfl, ⟨_, x, rfl, I.hok.fresh (Nat.le_refl _), rfl, fun ys hy => by rw [I.tuple_inj hy hq]; exact hx⟩, ⟨⟨u, ?_⟩, hst'.1.at fun o q => (sb.2 it (Ne.symm hne)).trans q, hne⟩, fun b hb => ?_⟩
    · have e1 : ((i + 1 : Nat) : Int) = (i : Int) + 1 := by omega
      rw [e1]; exact he'
    · have hb' : b < s.heap.objs.size := by
        have e' : b = e ∨ b = it := by simpa using hb
        rcases e' with z | z
        · rw [z]; exact hel
        · rw [z]; exact hil
      rw [upd_ne (Nat.ne_of_lt hb')]
      exact (hf b hb).1
  done := by
    intro X hP hw hK hc i pins s σ H E I hf st hg
    subst hP hw hK
    obtain ⟨⟨old, he⟩, hit, hne⟩ := st
    obtain ⟨xs, hq, hx⟩ := hg
    obtain ⟨its, rv, p, hz⟩ := I.tuple hq
    obtain ⟨f0, f1, f2, f3, f4, f5⟩ := hf it (by simp)
    have hl := rv.length
    have hT : s.TypeIs (.ref e) "enumerate" := ⟨_, he, rfl⟩
    unfold pyNext
    refine wpAny_bind (wpAny_attempt (wpAny_callSpecial?_slot (name := Str.ofString "__next__") hT F.slot_enumerate_next
      (wpAny_call_entry F.slot_enumerate_next hT F.entry_enumerate_next ?_ (F.args_enumerate_next_1 _))))
    show wpAny _ _ (field (.ref e) 2 >>= _) _ _ _
    refine wpAny_bind (wpAny_field he rfl (x := .ref it) rfl ?_)
    refine wpAny_bind (wpAny_nextOf_tuple_end (I.ok.hd hc) hit p (by simp; omega) fun h' x he' hx' => ?_)
    obtain ⟨o, ho, hc⟩ := hx'
    refine wpAny_bind (wpAny_isInstance (T := "StopIteration") (b := true) ⟨o, ho, hc⟩ isSubtype_stop ?_)
    exact wpAny_pure ⟨rfl, I.turned (t' := s.toks) (fun b o hb q => he' b o hb q) f0 f1 f3 f4 f5⟩
  self := fun A i s Q E st h => let ⟨⟨_, he⟩, _⟩ := st; wpAny_pyIter_enum he h
def iEnumT (K : PySem.W.Frag) (ta : TA) : TI := fun σ H R => ta σ H fun vs H1 => ∃ a xs, vs = [.ref a] ∧ SqT K H1 a xs ∧ R (Itet K a) H1
theorem pi_enumT {X : Cx} {e : Expr} {ta : TA} {p pos tpos : Pos} {elts : List Expr} {kk : Nat} (hg : Gl X "enumerate") (hm : X.mg "enumerate" = none) (ha : PA X [e] ta) (hs : starEach [e] X.env = [(false, eval e X.env)] := by rfl) :
    PI X (.Tuple elts kk tpos) (.Call (.Name "enumerate" p) [e] [] pos) (iEnumT X.K ta) := by
  refine ⟨fun pins s σ H R I h => ?_⟩
  refine Call_ (ld_blt I hg hm boot_enumerate (PyProof.Rows.callWith_type1 (thn (ha.run pos pins s σ H _ I h) fun us s1 ⟨vs, H1, I1, r1, q1⟩ => ?_) hs rfl))
  obtain ⟨a, xs, ex, hq, q⟩ := q1
  subst ex
  cases r1 with
  | cons r rr =>
    cases rr
    cases r
    obtain ⟨its, rv, p', hz⟩ := I1.tuple hq
    refine enum_begins1 (begins_tuple a its.toArray) p' fun h' he hio hsz hk => wpAny_pyIter_enum he ?_
    have I2 : Inv X pins σ H1 { s1 with heap := h' } := I1.kept (t' := s1.toks) hk
    refine ⟨s1.heap.objs.size + 1, [s1.heap.objs.size + 1, s1.heap.objs.size], _, _, H1, rfl, I2, turn_enumT a (s1.heap.objs.size + 1) s1.heap.objs.size, ⟨⟨.none, he⟩, ⟨_, hio, rfl, rfl⟩, Nat.succ_ne_self _⟩, fun b hb => ?_, q⟩
    have e' : b = s1.heap.objs.size + 1 ∨ b = s1.heap.objs.size := by simpa using hb
    have hle : s1.heap.objs.size ≤ b := by
      rcases e' with z | z
      · rw [z]; exact Nat.le_add_right _ _
      · rw [z]; exact Nat.le_refl _
    exact I1.fpOk hle (I1.hok.fresh hle)
end Ver
namespace Ver
open PySem PySem.Spec PyProof.Rows L2
theorem dc_enumT {K : PySem.W.Frag} {a : Addr} {xs : List V} {g : TG} {tt : TT} {tk tv : TE} {vs : List Nat} {σ : L2.St} {H1 : Hp} {D : Addr} {Qd : Hp → Prop} (Pv : Nat → Hp → Prop) (h0 : Pv 0 (upd H1 D (.dK []))) (hl : ∀ i H, i ≤ xs.length → Pv i H → SqT K H a xs)
    (hs : ∀ i x H T, xs[i]? = some x → Pv i H → H T = none → g (.ref T) (wipe σ vs) (upd H T (.tup [.int (i : Nat), x])) fun σ2 H2 => wipe σ2 vs = wipe σ vs ∧ tt σ2 H2 fun b H3 =>
      if b = true then tk σ2 H3 fun y H4 => tv σ2 H4 fun z H5 => ∃ kvs k, y = kV k ∧ H5 D = some (.dK kvs) ∧ kvs.length < sizeLine ∧ Pv (i + 1) (upd H5 D (.dK (putK kvs k z))) else Pv (i + 1) H3) (hd : ∀ H, Pv xs.length H → Qd H) :
    ∃ W : Nat → Nat → Hp → Prop, (∃ m, W 0 m (upd H1 D (.dK []))) ∧ ∀ i m H, W i m H →
      ((Itet K a).stop i H ∧ Qd H) ∨ ((Itet K a).go i H ∧ ∃ Nx : Hp → Prop, (∀ H', Nx H' → ∃ m', m' < m ∧ W (i + 1) m' H') ∧ ∀ x H', (Itet K a).yld i H x H' → g x (wipe σ vs) H' fun σ2 H2 => wipe σ2 vs = wipe σ vs ∧ tt σ2 H2 fun b H3 =>
        if b = true then tk σ2 H3 fun y H4 => tv σ2 H4 fun z H5 => ∃ kvs k, y = kV k ∧ H5 D = some (.dK kvs) ∧ kvs.length < sizeLine ∧ Nx (upd H5 D (.dK (putK kvs k z))) else Nx H3) := by
  refine ⟨fun i m H => m = xs.length - i ∧ i ≤ xs.length ∧ Pv i H, ⟨xs.length, by simp, Nat.zero_le _, h0⟩, ?_⟩
  rintro i m H ⟨rfl, hi, p⟩
  have q := hl i H hi p
  by_cases hlt : i < xs.length
  · refine .inr ⟨⟨xs, xs[i], q, by simp [hlt]⟩, Pv (i + 1), fun H' p' => ⟨xs.length - (i + 1), by omega, rfl, hlt, p'⟩, fun v H' y => ?_⟩
    obtain ⟨T, x, rfl, nT, rfl, f⟩ := y
    exact hs i x H T (f xs q) p nT
  · have e : i = xs.length := by omega
    subst e
    exact .inl ⟨⟨xs, q, Nat.le_refl _⟩, hd H p⟩
theorem pg_tupK {X : Cx} {K : PySem.W.Frag} {es : List Expr} {k : Nat} {pos : Pos} {t : TGs} {n : Nat} (hK : X.K = K) (hc : X.calm = true) (hn : (assignEach es X.env).length = n) (hst : (assignEach es X.env).findIdx? (·.1) = none) (h : PGs X es t) : PG X (.Tuple es k pos) (gTup K n t) := by
  subst hK
  exact pg_tup hc h hn hst
def rTupK (K : PySem.W.Frag) : List V → Hp → VK → Prop := fun xs H Q => ∃ p ys, xs = [V.ref p] ∧ ((SqL K H p ys ∧ ∀ l, H l = none → Q (.ref l) (upd H l (.tup ys))) ∨ (SqT K H p ys ∧ Q (.ref p) H))
theorem call_tupK {X : Cx} {K : PySem.W.Frag} (h : X.K = K) : CallR X (.type "tuple") (rTupK K) := by
  subst h
  exact call_tuple_of
theorem yes_on {σ : L2.St} {H : Hp} {A B : Hp → Prop} (h : A H) : tYes σ H fun b H3 => if b = true then A H3 else B H3 := by
  show (if true = true then A H else B H)
  rw [if_pos rfl]
  exact h
end Ver
set_option Elab.async false
set_option linter.all false
set_option maxRecDepth 100000
set_option maxHeartbeats 2000000
namespace Ver
open PySem PySem.Spec PyProof.Rows L2
theorem comp_str {x : Str} {te : TE} {σ : L2.St} {H1 : Hp} {D : Addr} {i : Nat} {Qd : Hp → Prop} (S : List V → Hp → Prop) (h0 : S [] (upd H1 D (.lst [])))
    (hs : ∀ acc c H, x.cps[acc.length]? = some c → S acc H → H D = some (.lst acc) → te ((wipe σ [i]).set i (some (.str ⟨#[c]⟩))) H (Turned D S acc.length))
    (hd : ∀ acc H, acc.length = x.length → S acc H → H D = some (.lst acc) → Qd H) :
    ∃ W : Nat → Nat → Hp → Prop, (∃ m, W 0 m (upd H1 D (.lst []))) ∧ ∀ j m H, W j m H →
      ((Its x).stop j H ∧ Qd H) ∨ ((Its x).go j H ∧ ∃ Nx : Hp → Prop, (∀ H', Nx H' → ∃ m', m' < m ∧ W (j + 1) m' H') ∧ ∀ y H', (Its x).yld j H y H' → gName i y (wipe σ [i]) H' fun σ2 H2 => wipe σ2 [i] = wipe σ [i] ∧ tYes σ2 H2 fun b H3 =>
        if b = true then te σ2 H3 fun y H4 => ∃ acc, H4 D = some (.lst acc) ∧ acc.length < sizeLine ∧ Nx (upd H4 D (.lst (acc ++ [y]))) else Nx H3) := by
  refine ⟨fun j m H => m = x.length - j ∧ j ≤ x.length ∧ ∃ acc, acc.length = j ∧ S acc H ∧ H D = some (.lst acc), ⟨x.length, by simp, Nat.zero_le _, [], rfl, h0, upd_same⟩, ?_⟩
  rintro j m H ⟨rfl, hj, acc, hn, h, hD⟩
  by_cases hlt : j < x.length
  · refine .inr ⟨hlt, fun H => ∃ acc, acc.length = j + 1 ∧ S acc H ∧ H D = some (.lst acc), fun H' p' => ⟨x.length - (j + 1), by omega, rfl, hlt, p'⟩, fun y H' hy => ?_⟩
    obtain ⟨e, c, ec, ev⟩ := hy
    subst e ev hn
    refine ⟨wipe_one σ i _, ?_⟩
    unfold tYes
    dsimp only
    rw [if_pos rfl]
    exact hs acc c _ ec h hD
  · exact .inl ⟨Nat.le_of_not_lt hlt, hd acc H (by omega) h hD⟩
theorem for_str {x : Str} {g : TG} {tb : TS} {D : Ends} {σ : L2.St} {H : Hp} (Pv : Nat → L2.St → Hp → Prop) (h0 : Pv 0 σ H)
    (hs : ∀ i c σ H, x.cps[i]? = some c → Pv i σ H → g (.str ⟨#[c]⟩) σ H fun σ2 H2 => tb { D with nx := Pv (i + 1), ct := Pv (i + 1), bk := D.nx } σ2 H2) (hd : ∀ σ H, Pv x.length σ H → D.nx σ H) :
    ∃ W : Nat → Nat → L2.St → Hp → Prop, (∃ m, W 0 m σ H) ∧ ∀ i m σ H, W i m σ H →
      ((Its x).stop i H ∧ D.nx σ H) ∨ ((Its x).go i H ∧ ∃ N : L2.St → Hp → Prop, (∀ σ' H', N σ' H' → ∃ m', m' < m ∧ W (i + 1) m' σ' H') ∧ ∀ y H', (Its x).yld i H y H' → g y σ H' fun σ2 H2 => tb { D with nx := N, ct := N, bk := D.nx } σ2 H2) := by
  refine ⟨fun i m σ H => m = x.length - i ∧ i ≤ x.length ∧ Pv i σ H, ⟨x.length, by simp, Nat.zero_le _, h0⟩, ?_⟩
  rintro i m σ H ⟨rfl, hi, p⟩
  by_cases hlt : i < x.length
  · refine .inr ⟨hlt, Pv (i + 1), fun σ' H' p' => ⟨x.length - (i + 1), by omega, rfl, hlt, p'⟩, fun y H' hy => ?_⟩
    obtain ⟨e, c, ec, ev⟩ := hy
    subst e ev
    exact hs i c σ _ ec p
  · have e : i = x.length := by omega
    subst e
    exact .inl ⟨Nat.le_refl _, hd σ H p⟩
end Ver
set_option Elab.async false
set_option linter.all false
set_option maxRecDepth 100000
set_option maxHeartbeats 2000000
namespace K58
open PySem PySem.Spec PyProof.Rows L2 Ver
def tabN (ts : List Str) : Nat → List (L2.Key × V)
  | 0 => []
  | n + 1 => match ts[n]? with | some z => putK (tabN ts n) (.inr z) (.int (n : Int)) | none => tabN ts n
def numAt (ts : List Str) (z : Str) : Nat → Int
  | 0 => -1
  | n + 1 => if ts[n]? = some z then (n : Int) else numAt ts z n
theorem tabN_len (ts : List Str) : ∀ n, (tabN ts n).length ≤ n
  | 0 => Nat.le_refl _
  | n + 1 => by
    have ih := tabN_len ts n
    show (match ts[n]? with | some z => putK (tabN ts n) (.inr z) (.int (n : Int)) | none => tabN ts n).length ≤ n + 1
    cases ts[n]? with
    | none => exact Nat.le_succ_of_le ih
    | some z => exact Nat.le_trans (length_putK _ _ _) (Nat.succ_le_succ ih)
theorem tabN_at (ts : List Str) (z : Str) : ∀ n, (valV (tabN ts n) (.inr z)).getD (.int (-1)) = .int (numAt ts z n)
  | 0 => rfl
  | n + 1 => by
    have ih := tabN_at ts z n
    show (valV (match ts[n]? with | some z => putK (tabN ts n) (.inr z) (.int (n : Int)) | none => tabN ts n) (.inr z)).getD (.int (-1)) = .int (if ts[n]? = some z then (n : Int) else numAt ts z n)
    cases e : ts[n]? with
    | none =>
      rw [if_neg (by simp)]
      exact ih
    | some y =>
      show (valV (putK (tabN ts n) (.inr y) (.int (n : Int))) (.inr z)).getD (.int (-1)) = _
      rw [valV_put]
      by_cases q : y = z
      · subst q
        rw [if_pos rfl, if_pos rfl]
        rfl
      · rw [if_neg (fun h => q (Sum.inr.inj h).symm), if_neg (fun h => q (Option.some.inj h))]
        exact ih
def rowL (ts : List Str) (is : List Int) : List Nat := is.flatMap fun i => (ts.getD i.toNat "").cps.toList
def rowS (ts : List Str) (is : List Int) : Str := ⟨(rowL ts is).toArray⟩
theorem joinL_flat : ∀ ys : List (List Nat), TL.joinL [] ys = ys.flatten
  | [] => rfl
  | [p] => by simp [TL.joinL]
  | p :: q :: r => by
    show p ++ ([] ++ TL.joinL [] (q :: r)) = _
    rw [joinL_flat (q :: r)]
    rfl
theorem join_row (ts : List Str) (is : List Int) : Txt.join "" (is.map fun i => ts.getD i.toNat "") = rowS ts is := by
  refine TL.ext_tl ?_
  rw [TL.join_eq, TL.tl_join]
  have e : TL.tl (Str.ofString "") = [] := by rfl
  rw [e, joinL_flat, List.map_map]
  show _ = rowL ts is
  unfold rowL
  rw [List.flatMap_def]
  rfl
theorem rowL_len (ts : List Str) (n : Nat) (h : ∀ z ∈ ts, z.length ≤ n) : ∀ is : List Int, ((is.map fun i => ts.getD i.toNat "").map (·.length)).sum ≤ is.length * n
  | [] => by simp
  | i :: is => by
    have ih := rowL_len ts n h is
    rw [List.map_cons, List.map_cons, List.sum_cons, List.length_cons, Nat.succ_mul]
    have a : (ts.getD i.toNat "").length ≤ n := by
      rw [List.getD_eq_getElem?_getD]
      cases e : ts[i.toNat]? with
      | none => exact Nat.zero_le _
      | some z => exact h z (List.mem_of_getElem? e)
    omega
section
variable {P : Program} {w : World} {K : PySem.W.Frag} {mg : Str → Option Value} {base : Heap}
def sp_token_numbers (K : PySem.W.Frag) : Sp := fun vs H Q _ => ∃ (t : Addr) (ts : List Str), vs = [.ref t] ∧ SqT K H t (ts.map V.str) ∧ ts.length ≤ 1000 ∧
  ∀ D H', Same H H' → H' D = some (.dK (tabN ts ts.length)) → Q (.ref D) H'
theorem ok_token_numbers (T : Tx K mg) : FnOk P w K mg base CX0 1 T.f_token_numbers T.d_token_numbers ["tokens"] (sp_token_numbers K) := by
  refine T.F_token_numbers.ok sc_token_numbers (fun vs H Q E h => ?_) (fun cdv A outer s H vs Q E hr h => ?_)
  · obtain ⟨t, ts, rfl, _⟩ := h; rfl
  · obtain ⟨t, ts, rfl, hT, hl, q⟩ := h
    refine ⟨_, (pss_one (ps_ret (pe_dc (own := [("k", 1), ("token", 2)]) (g := _) (tt := tYes) rfl sc_token_numbers.nd (pi_enumT (by rfl) T.n_enumerate (pa_cons (pv 0) pa_nil)) (blkOk_by (N := ["tokens", "k", "token"]) (sc := defScope s_token_numbers) (by decide +kernel)) (fun _ _ _ _ _ => (pg_tupK (K := K) (n := 2) rfl rfl rfl rfl (pgs_cons (pg_name (i := 1) sc_token_numbers.nd rfl (Or.inl rfl)) (pgs_cons (pg_name (i := 2) sc_token_numbers.nd rfl (Or.inl rfl)) pgs_nil)))) (fun _ _ _ _ _ => pts_nil) (fun _ _ _ _ _ => (pv 2)) (fun _ _ _ _ _ => (pv 1))))), ?_⟩
    refine ⟨.ref t, rfl, t, _, rfl, hT, fun D nD => ?_⟩
    have s0 := same_new (o := .dK []) nD
    refine dc_enumT (K := K) (a := t) (xs := ts.map V.str) (fun i H' => Same H H' ∧ H' D = some (.dK (tabN ts i))) ⟨s0, upd_same⟩ (fun i H' _ h => seqT_grow h.1 hT) (fun i x H' T e h nT => ?_) (fun H' h => ?_)
    · obtain ⟨z, ez, rfl⟩ : ∃ z, ts[i]? = some z ∧ V.str z = x := by
        rw [List.getElem?_map] at e
        cases ez : ts[i]? with
        | none => rw [ez] at e; cases e
        | some z => rw [ez] at e; exact ⟨z, rfl, Option.some.inj e⟩
      have lt : i < ts.length := (List.getElem?_eq_some_iff.mp ez).1
      have TD : D ≠ T := ne_of_none h.2 nT
      have sT : Same H' (upd H' T (.tup [.int (i : Nat), .str z])) := same_new nT
      have hD2 : (upd H' T (.tup [.int (i : Nat), .str z])) D = some (.dK (tabN ts i)) := sT _ _ h.2
      refine ⟨T, _, rfl, .inl (.inl upd_same), rfl, .int (i : Nat), _, rfl, .str z, _, rfl, rfl, rfl, ?_⟩
      refine ⟨.str z, rfl, .int (i : Nat), rfl, tabN ts i, .inr z, rfl, hD2, small (Nat.le_trans (tabN_len ts i) (by omega)), ?_, ?_⟩
      · intro b o eb
        rw [upd_ne (ne_of_none eb nD)]
        exact sT _ _ (h.1 b o eb)
      · rw [upd_same]
        show some (HO.dK (putK (tabN ts i) (.inr z) (.int (i : Int)))) = some (HO.dK (match ts[i]? with | some z => putK (tabN ts i) (.inr z) (.int (i : Int)) | none => tabN ts i))
        rw [ez]
    · rw [List.length_map] at h
      exact q D H' h.1 h.2
end
end K58
set_option Elab.async false
set_option linter.all false
set_option maxRecDepth 100000
set_option maxHeartbeats 2000000
namespace Ver
open PySem PySem.Spec PyProof.Rows L2
def TxS (P : Program) (w : World) (a : Addr) (l : List Str) (h : Heap) : Prop :=
  ∃ D : Froz.SD, h.get? a = some (Froz.sObj "set" D) ∧ Froz.TxOk P w D l ∧ l.Nodup ∧ l.length < scanBound ∧ Ris D.2.2.place.toList ∧ (w.params.followText "set-order" = true ∨ D.2.2.led = true)
def TxO (P : Program) (w : World) (a : Addr) (l : List Str) : HO := .ext (TxS P w a l)
theorem txO_ok {P : Program} {w : World} {H : Hp} {h : Heap} {a : Addr} {l : List Str} (x : TxS P w a l h) : ObjOk P w H h a (TxO P w a l) := by
  have ⟨D, ho, _⟩ := x
  exact ⟨x, ⟨_, ho⟩, fun h1 h2 ⟨D, ho, r⟩ k => ⟨D, k _ ho, r⟩⟩
theorem off_place (t : SetTable) : (if t.plain = true then { t with plain := false } else t).place = t.place := by split <;> rfl
theorem off_led (t : SetTable) : (if t.plain = true then { t with plain := false } else t).led = t.led := by split <;> rfl
theorem tail_ris {ep : Nat} {es : Array (Int × Value)} {t : SetTable} {b : Bool} (r : Ris t.place.toList) : Ris (Froz.tailTx ep es t b).2.2.place.toList := by
  unfold Froz.tailTx
  split
  · exact relayAll_ris t es _
  · exact r
theorem tail_led {ep : Nat} {es : Array (Int × Value)} {t : SetTable} {b : Bool} : (Froz.tailTx ep es t b).2.2.led = t.led := by
  unfold Froz.tailTx
  split
  · exact relayAll_led t es _
  · rfl
theorem add_ris {D : Froz.SD} {h : Int} {v : Value} (r : Ris D.2.2.place.toList) : Ris (Froz.addTx h v D).2.2.place.toList :=
  tail_ris (by rw [off_place]; exact layNew_ris _ _ _ _ r)
theorem add_led {D : Froz.SD} {h : Int} {v : Value} : (Froz.addTx h v D).2.2.led = D.2.2.led :=
  tail_led.trans ((off_led _).trans (layNew_led _ _ _ _))
section
variable {P : Program} {w : World} {A : Around} {E : Value → Shared → Prop} {s : Shared} {a : Addr} {l : List Str} {k : Str} {u : Tok}
theorem add_again {D : Froz.SD} {Q : Bool → Shared → Prop} (ho : s.heap.get? a = some (Froz.sObj "set" D)) (F : Froz.TxOk P w D l) (hk : k ∈ l) (hb : l.length < scanBound) (h : Q false s) :
    wpAny (model P w) A (setAddHashed a (.str k u) (hashStr w k)) Q E s := by
  obtain ⟨es, ep, t⟩ := D
  have dat : (Froz.sObj "set" (es, ep, t)).data = .set es ep t := rfl
  have sz : es.size < scanBound := by have z : es.size = l.length := F.sz; omega
  have key : (strKind P w).is k (.str k u) = true := Froz.is_str k u
  have fit : t.fits es.size = true := F.fit
  have el : ElemsOf (strKind P w) es.toList := F.el
  unfold setAddHashed setAddHashedIn
  refine wpAny_holding (wpAny_bind (wpAny_setState_of ho dat fit ?_))
  dsimp only
  rw [byScan_of rfl sz el]
  simp only [↓reduceIte]
  unfold setAddByScan
  refine wpAny_bind (wpAny_bind (wpAny_rule (wpAny_bind (wpAny_setScan_of (knd := strKind P w) (k := k) key ho dat fit el ?_))))
  cases found : List.findIdx? (fun e => (strKind P w).is k e.2) es.toList with
  | none =>
    obtain ⟨e, he, z⟩ := (F.mem k).mp hk
    rw [List.findIdx?_eq_none_iff.mp found e he] at z
    cases z
  | some j =>
    dsimp only
    exact wpAny_pure (wpAny_pure h)
theorem set_add_text {Q : Value → Shared → Prop} (x : TxS P w a l s.heap) (room : l.length + 1 < scanBound)
    (h : ∀ h', Heap.SameBut a s.heap h' → TxS P w a (if k ∈ l then l else k :: l) h' → Q .none { s with heap := h', toks := s.toks + 1 }) :
    wpAny (model P w) A (call (.builtin "set.add") [.ref a, .str k u]) Q E s := by
  obtain ⟨D, ho, tx, nd, lb, ris, led⟩ := x
  refine wpAny_call_entry F.slot_set_add ⟨_, ho, rfl⟩ F.entry_set_add ?_ (F.args_set_add_2 _ _)
  unfold Builtin.«set.add» Builtin.Frozenset.oneOther
  simp only [List.isEmpty_nil, bind_assoc]
  unfold Builtin.Frozenset.addrOf setAdd
  refine wpAny_bind (wpAny_pure ?_)
  try dsimp only
  refine wpAny_bind (wpAny_pure ?_)
  try dsimp only
  refine wpAny_bind (wpAny_holding (wpAny_bind ((strKind P w).pyHash (Froz.is_str k u) ?_)))
  show wpAny (model P w) _ (setAddHashed a (.str k u) (hashStr w k)) _ _ { s with toks := s.toks + 1 }
  by_cases c : k ∈ l
  · refine add_again (s := { s with toks := s.toks + 1 }) ho tx c lb ?_
    show wpAny _ _ (ret Value.none) _ _ _
    refine wpAny_pure ⟨_, rfl, h s.heap (Heap.SameBut.refl a s.heap) ?_⟩
    rw [if_pos c]
    exact ⟨D, ho, tx, nd, lb, ris, led⟩
  · refine Froz.add_x (s := { s with toks := s.toks + 1 }) ho tx c room ?_
    show wpAny _ _ (ret Value.none) _ _ _
    refine wpAny_pure ⟨_, rfl, h _ (Heap.SameBut.update s.heap a _) ?_⟩
    rw [if_neg c]
    exact ⟨_, Froz.get_upd _ ho rfl, Froz.add_ok u tx, List.nodup_cons.mpr ⟨c, nd⟩, room, add_ris ris, led.imp id fun z => add_led.trans z⟩
end
section
variable {X : Cx} {pins : List (Addr × Obj)} {σ : L2.St} {H : Hp} {s : Shared} {E : Value → Shared → Prop} {D : Addr} {l : List Str}
theorem txO_get (I : Inv X pins σ H s) (h : H D = some (TxO X.prog X.w D l)) : TxS X.prog X.w D l s.heap := (I.hok D _ h).1
theorem txO_add {k : Str} {v : Value} {Q : Value → Shared → Prop} (I : Inv X pins σ H s) (hD : H D = some (TxO X.prog X.w D l)) (room : l.length + 1 < scanBound) (rv : RelV (.str k) v)
    (h : ∀ s', Inv X pins σ (upd H D (TxO X.prog X.w D (if k ∈ l then l else k :: l))) s' → Q .none s') : wpAny (model X.prog X.w) X.A (call (.builtin "set.add") [.ref D, v]) Q E s := by
  obtain ⟨u, rfl⟩ := rv
  refine set_add_text (txO_get I hD) room fun h' sb new => ?_
  have there : ∃ o, h'.get? D = some o := by
    have ⟨_, ho, _⟩ := new
    exact ⟨_, ho⟩
  exact h _ (I.write (e := D) (t' := s.toks + 1) (by rw [hD]; trivial) (.inl rfl) (fun b o hb e => (sb.2 b hb).trans e) there (txO_ok new))
theorem txS_fresh {h : Heap} (P : Program) (w : World) : TxS P w h.objs.size [] (h.push { cls := .type "set", dict := none, data := .set #[] 0 (.fresh 0 0 (!w.params.followText "set-order")) }) :=
  ⟨(#[], 0, .fresh 0 0 (!w.params.followText "set-order")), Heap.get?_push_size _ rfl, Froz.TxOk.nil rfl, List.nodup_nil, by decide, List.Pairwise.nil, by
    show _ ∨ (!w.params.followText "set-order") = true
    cases w.params.followText "set-order"
    · exact .inr rfl
    · exact .inl rfl⟩
end
end Ver
set_option Elab.async false
set_option linter.all false
set_option maxRecDepth 100000
set_option maxHeartbeats 2000000
namespace Ver
open PySem PySem.Spec PyProof.Rows L2
abbrev twoSets (elt t0 i0 t1 i1 : Expr) (scope : Scope) (pos : Pos) : Expr := .SetComp elt [⟨t0, i0, [], 0⟩, ⟨t1, i1, [], 0⟩] scope pos
section
variable {prog : Program} {w : World} {A : Around} {R : Result → Shared → Prop} {s : Shared} {elt t0 i0 t1 i1 : Expr} {scope : Scope} {pos : Pos} {it acc : Value} {env : Env}
theorem turn_outer : compTurn (twoSets elt t0 i0 t1 i1 scope pos) 0 it acc env = (do
      standAt i0.pos
      match ← pyNext it with
      | none => pure (.done .next)
      | some v =>
        letOwnedTupleGo t0 it v
        assign t0 env v
        let x ← eval i1 env
        standAt i1.pos
        let x ← foldedSetIterable i1 env x
        let _ ← runOwn (.compStart (twoSets elt t0 i0 t1 i1 scope pos) 1 (← holding [x] (pyIter x)) acc env) env
        again (.compLoop (twoSets elt t0 i0 t1 i1 scope pos) 0 it acc env)) := by rfl
theorem turn_inner : compTurn (twoSets elt t0 i0 t1 i1 scope pos) 1 it acc env = (do
      standAt i1.pos
      match ← pyNext it with
      | none => pure (.done .next)
      | some v =>
        letOwnedTupleGo t1 it v
        assign t1 env v
        (do let x ← eval elt env; standAt elt.pos; let _ ← call (.builtin "set.add") [acc, x])
        again (.compLoop (twoSets elt t0 i0 t1 i1 scope pos) 1 it acc env)) := by rfl
abbrev NB (prog : Program) (w : World) (A : Around) (env : Env) (R : Result → Shared → Prop) : Value → Shared → Prop := notedBy (model prog w) A env fun e s' => R (.error e) s'
theorem loop_outer (flat : ∀ x, foldedSetIterable i1 env x = pure x) (I : Nat → Shared → Prop)
    (turn : ∀ n s, I n s → wpAny (model prog w) A (pyNext it) (fun r s1 => match r with
      | none => R (.ok .next) s1
      | some v => wpAny (model prog w) A (letOwnedTupleGo t0 it v) (fun _ s2 => wpAny (model prog w) A (assign t0 env v) (fun _ s3 => wpAny (model prog w) A (eval i1 env) (fun x s4 => wpAny (model prog w) A (pyIter x) (fun it1 s5 =>
          codeAny (model prog w) A (.compStart (twoSets elt t0 i0 t1 i1 scope pos) 1 it1 acc env) (fun r s' => match r with
            | .ok _ => ∃ m, m < n ∧ I m s'
            | .error _ => False) s5) (NB prog w A env R) s4) (NB prog w A env R) s3) (NB prog w A env R) s2) (NB prog w A env R) s1) (NB prog w A env R) s)
    (n : Nat) (start : I n s) : codeAny (model prog w) A (.compLoop (twoSets elt t0 i0 t1 i1 scope pos) 0 it acc env) R s := by
  refine codeAny_loop rfl I (fun n s here => ?_) n start
  show wpAny _ A ((compTurn (twoSets elt t0 i0 t1 i1 scope pos) 0 it acc env).onRaise (fun x => do noteFrame x env; theTreesLotGoes x)) _ _ s
  refine wpAny_noted ?_
  rw [turn_outer]
  refine wpAny_bind (wpAny_standAt (wpAny_bind (wpAny_mono (turn n s here) (fun r s1 q => ?_) fun _ _ z => z)))
  cases r with
  | none => exact wpAny_pure q
  | some v =>
    refine wpAny_bind (wpAny_mono q (fun _ s2 q => wpAny_bind (wpAny_mono q (fun _ s3 q => ?_) fun _ _ z => z)) fun _ _ z => z)
    refine wpAny_bind (wpAny_mono q (fun x s4 q => ?_) fun _ _ z => z)
    refine wpAny_bind (wpAny_standAt (wpAny_bind (wpAny_of_eq (flat x) (wpAny_bind (wpAny_holding (wpAny_mono q (fun it1 s5 q => ?_) fun _ _ z => z))))))
    refine wpAny_bind (wpAny_runOwn ?_)
    rw [Around.mark_none]
    refine codeAny_mono q fun r s' q => ?_
    cases r with
    | ok f =>
      first
        | exact wpAny_pure ⟨rfl, q⟩
        | exact wpAny_bind (wpAny_pure (wpAny_pure ⟨rfl, q⟩))
    | error e => exact q.elim
theorem loop_inner (I : Nat → Shared → Prop)
    (turn : ∀ n s, I n s → wpAny (model prog w) A (pyNext it) (fun r s1 => match r with
      | none => R (.ok .next) s1
      | some v => wpAny (model prog w) A (letOwnedTupleGo t1 it v) (fun _ s2 => wpAny (model prog w) A (assign t1 env v) (fun _ s3 => wpAny (model prog w) A (eval elt env) (fun x s4 =>
          wpAny (model prog w) A (call (.builtin "set.add") [acc, x]) (fun _ s5 => ∃ m, m < n ∧ I m s5) (NB prog w A env R) s4) (NB prog w A env R) s3) (NB prog w A env R) s2) (NB prog w A env R) s1) (NB prog w A env R) s)
    (n : Nat) (start : I n s) : codeAny (model prog w) A (.compLoop (twoSets elt t0 i0 t1 i1 scope pos) 1 it acc env) R s := by
  refine codeAny_loop rfl I (fun n s here => ?_) n start
  show wpAny _ A ((compTurn (twoSets elt t0 i0 t1 i1 scope pos) 1 it acc env).onRaise (fun x => do noteFrame x env; theTreesLotGoes x)) _ _ s
  refine wpAny_noted ?_
  rw [turn_inner]
  refine wpAny_bind (wpAny_standAt (wpAny_bind (wpAny_mono (turn n s here) (fun r s1 q => ?_) fun _ _ z => z)))
  cases r with
  | none => exact wpAny_pure q
  | some v =>
    refine wpAny_bind (wpAny_mono q (fun _ s2 q => wpAny_bind (wpAny_mono q (fun _ s3 q => ?_) fun _ _ z => z)) fun _ _ z => z)
    first
      | exact wpAny_bind (wpAny_bind (wpAny_mono q (fun x s4 q => wpAny_bind (wpAny_standAt (wpAny_bind (wpAny_mono q (fun _ s5 q => wpAny_pure (wpAny_pure ⟨rfl, q⟩)) fun _ _ z => z)))) fun _ _ z => z))
      | exact wpAny_bind (wpAny_mono q (fun x s4 q => wpAny_bind (wpAny_standAt (wpAny_bind (wpAny_mono q (fun _ s5 q => wpAny_pure ⟨rfl, q⟩) fun _ _ z => z)))) fun _ _ z => z)
theorem start_inner (h0 : codeAny (model prog w) A (.compLoop (twoSets elt t0 i0 t1 i1 scope pos) 1 it acc env) R s)
    (h : wpAny (model prog w) A (pyIter it) (fun it' s' => codeAny (model prog w) A (.compLoop (twoSets elt t0 i0 t1 i1 scope pos) 1 it' acc env) R s') (NB prog w A env R) s) :
    codeAny (model prog w) A (.compStart (twoSets elt t0 i0 t1 i1 scope pos) 1 it acc env) R s := by
  refine codeAny_of_tree ?_
  show wpAny _ _ ((compStart (twoSets elt t0 i0 t1 i1 scope pos) 1 it acc env).onRaise (fun x => do noteFrame x env; standAt theWindowsPlace)) _ _ s
  refine wpAny_notedAt ?_
  unfold compStart
  show wpAny _ _ (ask >>= _) _ _ s
  refine wpAny_bind (wpAny_askSetting (wpAny_ite ?_))
  split
  · first
      | exact wpAny_bind (wpAny_pure (wpAny_pure ⟨rfl, h0⟩))
      | exact wpAny_pure ⟨rfl, h0⟩
  · refine wpAny_bind (wpAny_rule ?_)
    first
      | exact wpAny_bind (wpAny_standAt (wpAny_bind (wpAny_mono h (fun it' s' q => wpAny_pure ⟨rfl, q⟩) fun _ _ z => z)))
      | (show wpAny _ _ (standAt i1.pos >>= _) _ _ s
         exact wpAny_bind (wpAny_standAt (wpAny_bind (wpAny_mono h (fun it' s' q => wpAny_pure ⟨rfl, q⟩) fun _ _ z => z))))
end
section
variable {X : Cx}
def AddT (P : Program) (w : World) (H : Hp) (D : Addr) (y : V) (Nx : Hp → Prop) : Prop :=
  ∃ (k : Str) (l : List Str), y = .str k ∧ H D = some (TxO P w D l) ∧ l.length + 1 < scanBound ∧ Nx (upd H D (TxO P w D (if k ∈ l then l else k :: l)))
def tSc2 (P : Program) (w : World) (wi : TI) (g : TG) (wi1 : TI) (g1 : TG) (te : TE) (vs vs1 : List Nat) : TE := fun σ H Q => wi σ H fun J H1 => ∀ D, H1 D = none →
  ∃ W : Nat → Nat → Hp → Prop, (∃ m, W 0 m (upd H1 D (TxO P w D []))) ∧ ∀ i m H, W i m H →
    (J.stop i H ∧ Q (.ref D) H) ∨
    (J.go i H ∧ ∃ Nx : Hp → Prop, (∀ H', Nx H' → ∃ m', m' < m ∧ W (i + 1) m' H') ∧
      ∀ x H', J.yld i H x H' → g x (wipe σ vs) H' fun σ2 H2 => wipe σ2 vs = wipe σ vs ∧ wi1 σ2 H2 fun J1 H3 =>
        ∃ W1 : Nat → Nat → Hp → Prop, (∃ m, W1 0 m H3) ∧ ∀ j k H, W1 j k H →
          (J1.stop j H ∧ Nx H) ∨
          (J1.go j H ∧ ∃ Nx1 : Hp → Prop, (∀ H', Nx1 H' → ∃ k', k' < k ∧ W1 (j + 1) k' H') ∧
            ∀ x H', J1.yld j H x H' → g1 x (wipe σ2 vs1) H' fun σ3 H4 => wipe σ3 vs1 = wipe σ2 vs1 ∧ te σ3 H4 fun y H5 => AddT P w H5 D y Nx1))
variable {elt tg iter tg1 iter1 : Expr} {scope : Scope} {own : List (Str × Nat)} {vs1 : List Nat} {pos : Pos} {wi wi1 : TI} {g g1 : TG} {te : TE}
abbrev blkE (X : Cx) (scope : Scope) (cl : List (Str × Addr)) (C : Addr) : Env := compEnvC scope cl C X.env
theorem sc2_core {pins : List (Addr × Obj)} {s : Shared} {σ : L2.St} {H : Hp} {Q : VK} {use : Option (Value → Sem Unit)} {Qf : Value → Shared → Prop} {pos' : Pos} (hc : X.calm = true) (hN : X.N.Nodup) (I : Inv X pins σ H s) (hi : PI X tg iter wi) (ok : BlkOk X.N X.env.scope scope own) (hv : ∀ i ∈ vs1, i ∈ own.map (·.2))
    (hg : ∀ (s : Shared) (H : Hp) (C : Addr) (cl : List (Str × Addr)) (fp : List Addr), PG (X.blk s H scope (blkE X scope cl C) fp) tg g)
    (hi1 : ∀ (s : Shared) (H : Hp) (C : Addr) (cl : List (Str × Addr)) (fp : List Addr), PI (X.blk s H scope (blkE X scope cl C) fp) tg1 iter1 wi1)
    (hg1 : ∀ (s : Shared) (H : Hp) (C : Addr) (cl : List (Str × Addr)) (fp : List Addr), PG (X.blk s H scope (blkE X scope cl C) fp) tg1 g1)
    (he : ∀ (s : Shared) (H : Hp) (C : Addr) (cl : List (Str × Addr)) (fp : List Addr), PE (X.blk s H scope (blkE X scope cl C) fp) elt te)
    (hs : ∀ x, foldedSetIterable iter X.env x = pure x) (hs1 : ∀ env x, foldedSetIterable iter1 env x = pure x)
    (h : tSc2 X.prog X.w wi g wi1 g1 te (own.map (·.2)) vs1 σ H Q)
    (hRR : ∀ D C s' m H', Inv X pins σ H' s' → Q (.ref D) H' → s'.heap.Ns C m → FpOk X pins H' C → compPost (model X.prog X.w) X.A X.xe use Qf (.ref D) C (.ok .next) s') :
    wpAny (model X.prog X.w) X.A (comprehension (twoSets elt tg iter tg1 iter1 scope pos) scope X.env pos' (newSet (.type "set")) false (eval iter X.env) use) Qf X.xe s := by
  have hfree : ∀ y ∈ scope.names, y.2 = .free → ∃ c, X.env.cells.lookup y.1 = some c := fun y hy e =>
    (ok.free y hy e).elim (fun k => I.ok.has _ (.inl k)) fun k => I.ok.has _ (.inr k)
  refine wpAny_comprehension_free (use := use) rfl hs (closure_ok hfree) ok.kind (fun y hy e => by rw [ok.uniq y hy, e]) (thn (hi.run pins s σ H _ I h) fun xv s1 hx => thn hx fun itv s2 got => ?_)
  obtain ⟨it, fp, tn, J, H2, rfl, I2, T, at0, nofp, q⟩ := got
  refine PpSet.newSet_ok (newEnv_comp ?_)
  generalize hD : s2.heap.objs.size = D
  have Dn : H2 D = none := I2.hok.fresh (Nat.le_of_eq hD)
  obtain ⟨W, ⟨m0, w0⟩, turn⟩ := q D Dn
  generalize e3 : ({ s2 with heap := s2.heap.push { cls := .type "set", dict := none, data := .set #[] 0 (.fresh 0 0 (!X.w.params.followText "set-order")) } } : Shared) = s3
  have heap3 : s3.heap = s2.heap.push { cls := .type "set", dict := none, data := .set #[] 0 (.fresh 0 0 (!X.w.params.followText "set-order")) } := by rw [← e3]
  have I3 : Inv X pins σ (upd H2 D (TxO X.prog X.w D [])) s3 := by
    subst e3 hD
    exact I2.laid (t' := s2.toks) (fun b o e => Heap.get?_push_of_some _ e) (Nat.le_refl _) (txO_ok (txS_fresh X.prog X.w))
  have nof3 : ∀ b ∈ fp, FpOk X pins (upd H2 D (TxO X.prog X.w D [])) b ∧ b < s3.heap.objs.size := fun b hb => by
    obtain ⟨o, e, _⟩ := T.obj _ _ at0 b hb
    have lt := Heap.lt_size e
    have ne : b ≠ D := by rw [← hD]; exact Nat.ne_of_lt lt
    exact ⟨⟨by rw [upd_ne ne]; exact (nofp b hb).1, (nofp b hb).2⟩, by rw [heap3, Heap.size_push]; exact Nat.lt_succ_of_lt lt⟩
  have at3 : tn 0 s3.heap := T.keep _ _ _ at0 fun b _ o e => by rw [heap3]; exact Heap.get?_push_of_some _ e
  have I4 := block_start I3 ok hN nof3
  show codeAny _ _ (.compStart (twoSets elt tg iter tg1 iter1 scope pos) 0 (.ref it) (.ref D) (compEnvC scope (cellsFrom (s3.heap.objs.size + 1) scope.names (cloFrom X.env.cells scope.names [])) s3.heap.objs.size X.env)) (compPost (model X.prog X.w) X.A X.xe use Qf (.ref D) s3.heap.objs.size) { s3 with heap := pushCells (s3.heap.push { cls := .type "dict", data := .dict #[] }) scope.names }
  generalize hcl : cellsFrom (s3.heap.objs.size + 1) scope.names (cloFrom X.env.cells scope.names []) = cl at I4 ⊢
  have rg := hg s3 (upd H2 D (TxO X.prog X.w D [])) s3.heap.objs.size cl fp
  have ri1 := hi1 s3 (upd H2 D (TxO X.prog X.w D [])) s3.heap.objs.size cl fp
  have rg1 := hg1 s3 (upd H2 D (TxO X.prog X.w D [])) s3.heap.objs.size cl fp
  have re := he s3 (upd H2 D (TxO X.prog X.w D [])) s3.heap.objs.size cl fp
  generalize hC : s3.heap.objs.size = C at I4 rg ri1 rg1 re ⊢
  have nf0 : ∀ b ∈ fp, (upd H2 D (TxO X.prog X.w D [])) b = none := fun b hb => (nof3 b hb).1.1
  generalize hce : blkE X scope cl C = ce at rg ri1 rg1 re
  have ece : compEnvC scope cl C X.env = ce := hce
  rw [ece] at I4 ⊢
  have cL : ce.locals = C := by rw [← hce]; rfl
  generalize hH3 : upd H2 D (TxO X.prog X.w D []) = H3 at I3 I4 rg ri1 rg1 re w0 nf0 nof3
  generalize hs4 : ({ s3 with heap := pushCells (s3.heap.push { cls := .type "dict", data := .dict #[] }) scope.names } : Shared) = s4 at I4 ⊢
  have at4 : tn 0 s4.heap := T.keep _ _ _ at3 fun b _ o e => by rw [← hs4]; exact pushCells_keeps _ _ _ _ (Heap.get?_push_of_some _ e)
  generalize hvs : own.map (·.2) = vs at *
  have fpok : ∀ {σ' : L2.St} {H' : Hp} {s' : Shared}, Inv (X.blk s3 H3 scope ce fp) [] σ' H' s' → (∀ b ∈ fp, H' b = none) → ∀ b ∈ fp, FpOk (X.blk s3 H3 scope ce fp) [] H' b := fun {σ' H' s'} I' hn b hb =>
    ⟨hn b hb, (I'.ok.exf b hb).1, I'.ok.exfs b hb, .inl hb, fun x c e => (I'.ok.exf b hb).2 x c e, fun p hp => absurd (show p ∈ ([] : List (Addr × Obj)) ++ [] from hp) (by simp)⟩
  have main : codeAny (model X.prog X.w) X.A (.compLoop (twoSets elt tg iter tg1 iter1 scope pos) 0 (.ref it) (.ref D) ce) (compPost (model X.prog X.w) X.A X.xe use Qf (.ref D) C) s4 := by
    refine loop_outer (hs1 ce) (fun n s' => ∃ i H', Inv (X.blk s3 H3 scope ce fp) [] (wipe σ vs) H' s' ∧ tn i s'.heap ∧ (∀ b ∈ fp, H' b = none) ∧ W i n H') ?_ m0 ⟨0, H3, I4, at4, nf0, w0⟩
    rintro n s5 ⟨i, H5, I5, at5, nf5, w5⟩
    rcases turn i n H5 w5 with ⟨stop, fin⟩ | ⟨go, Nx, less, step⟩
    · refine thnF (T.done (X.blk s3 H3 scope ce fp) rfl rfl rfl hc i [] s5 _ H5 (fun _ _ => False) I5 (fpok I5 nf5) at5 stop) fun r s6 got => ?_
      obtain ⟨rfl, I6⟩ := got
      have I7 : Inv X pins σ H5 s6 := I3.call' (ch := fp) I6.os I6.base I6.hok I6.bare fun b hb => ⟨(nof3 b hb).1.2.2.2.1, (nof3 b hb).1.2.1, (nof3 b hb).1.2.2.2.2.1, (nof3 b hb).1.2.2.2.2.2⟩
      have nC : H5 C = none := by rw [← cL]; exact I6.free
      obtain ⟨m, hn, _⟩ := I6.loc
      replace hn : s6.heap.Ns C m := by rw [← cL]; exact hn
      exact hRR D C s6 m H5 I7 fin hn (I3.fpOk (Nat.le_of_eq hC) nC)
    refine thnF (T.item (X.blk s3 H3 scope ce fp) rfl rfl rfl hc i [] s5 _ H5 (fun _ _ => False) I5 (fpok I5 nf5) at5 go) fun r s6 got => ?_
    obtain ⟨u, rfl, h6⟩ := got
    refine thnF h6 fun _ s7 got => ?_
    obtain ⟨x, H7, I7, r7, y7, at7, nf7⟩ := got
    refine thnF (rg.run _ s7 _ H7 x u _ (I7.pinned (fpok I7 nf7) (T.obj _ _ at7)) r7 (step x H7 y7)) fun _ s8 got => ?_
    obtain ⟨σ8, H8, I8, ew, q8⟩ := got
    have len8 : (wipe σ vs).length = σ8.length := by rw [← ew, wipe_length]
    have know8 : ∀ (j : Nat) v, (wipe σ vs)[j]? = some (some v) → (wipe σ8 vs1)[j]? = some (some v) := fun j v e => by
      rw [← ew] at e
      obtain ⟨e1, e2⟩ := wipe_some e
      rw [wipe_out fun z => e2 (hv j z)]
      exact e1
    have next : ∀ {s' : Shared} {H' : Hp}, Inv (X.blk s3 H3 scope ce fp) ([] ++ pinsAt fp s7.heap) (wipe σ8 vs1) H' s' → Nx H' →
        ∃ m, m < n ∧ ∃ i H', Inv (X.blk s3 H3 scope ce fp) [] (wipe σ vs) H' s' ∧ tn i s'.heap ∧ (∀ b ∈ fp, H' b = none) ∧ W i m H' := fun {s' H'} I' nx => by
      obtain ⟨m', lt, w'⟩ := less H' nx
      have kept : ∀ b ∈ fp, ∀ o, s7.heap.get? b = some o → s'.heap.get? b = some o ∧ H' b = none := fun b hb o e => by
        have z := I'.pin (b, o) (List.mem_append_right _ (List.mem_append_right _ (mem_pinsAt hb e)))
        exact ⟨z.1, z.2.1⟩
      refine ⟨m', lt, i + 1, H', (I'.unpinned (pins := [])).weak (len8.trans (wipe_length σ8 vs1).symm) know8, T.keep _ _ _ at7 fun b hb o e => (kept b hb o e).1, fun b hb => ?_, w'⟩
      obtain ⟨o, e, _⟩ := T.obj _ _ at7 b hb
      exact (kept b hb o e).2
    refine thnF (ri1.run _ s8 σ8 H8 _ I8 q8) fun xv s9 hx => thnF hx fun itv s10 got => ?_
    obtain ⟨it1, fp1, tn1, J1, H10, rfl, I10, T1, at10, nofp1, W1, ⟨k0, w1⟩, turn1⟩ := got
    have fpok1 : ∀ {H' : Hp}, (∀ b ∈ fp1, H' b = none) → ∀ b ∈ fp1, FpOk (X.blk s3 H3 scope ce fp) ([] ++ pinsAt fp s7.heap) H' b := fun hn b hb => ⟨hn b hb, (nofp1 b hb).2⟩
    have inner : codeAny (model X.prog X.w) X.A (.compLoop (twoSets elt tg iter tg1 iter1 scope pos) 1 (.ref it1) (.ref D) ce)
        (fun r s' => match r with
          | .ok _ => ∃ m, m < n ∧ ∃ i H', Inv (X.blk s3 H3 scope ce fp) [] (wipe σ vs) H' s' ∧ tn i s'.heap ∧ (∀ b ∈ fp, H' b = none) ∧ W i m H'
          | .error _ => False) s10 := by
      refine loop_inner (fun k s' => ∃ j H', Inv (X.blk s3 H3 scope ce fp) ([] ++ pinsAt fp s7.heap) (wipe σ8 vs1) H' s' ∧ tn1 j s'.heap ∧ (∀ b ∈ fp1, H' b = none) ∧ W1 j k H') ?_ k0 ⟨0, H10, I10.weak (wipe_length _ _) (fun j v e => (wipe_some e).1), at10, fun b hb => (nofp1 b hb).1, w1⟩
      rintro k s11 ⟨j, H11, I11, at11, nf11, w11⟩
      rcases turn1 j k H11 w11 with ⟨stop1, nx⟩ | ⟨go1, Nx1, less1, step1⟩
      · refine thnF (T1.done (X.blk s3 H3 scope ce fp) rfl rfl rfl hc j _ s11 _ H11 (fun _ _ => False) I11 (fpok1 nf11) at11 stop1) fun r s12 got => ?_
        obtain ⟨rfl, I12⟩ := got
        exact next I12 nx
      · refine thnF (T1.item (X.blk s3 H3 scope ce fp) rfl rfl rfl hc j _ s11 _ H11 (fun _ _ => False) I11 (fpok1 nf11) at11 go1) fun r s12 got => ?_
        obtain ⟨u1, rfl, h12⟩ := got
        refine thnF h12 fun _ s13 got => ?_
        obtain ⟨x1, H13, I13, r13, y13, at13, nf13⟩ := got
        refine thnF (rg1.run _ s13 _ H13 x1 u1 _ (I13.pinned (fpok1 nf13) (T1.obj _ _ at13)) r13 (step1 x1 H13 y13)) fun _ s14 got => ?_
        obtain ⟨σ14, H14, I14, ew1, q14⟩ := got
        refine thnF (re.run _ s14 σ14 H14 _ I14 q14) fun v s15 got => ?_
        obtain ⟨y, H15, I15, r15, kk, l, rfl, hl15, room, nx⟩ := got
        refine txO_add (X := X.blk s3 H3 scope ce fp) I15 hl15 room r15 fun s16 I16 => ?_
        obtain ⟨k', lt, w'⟩ := less1 _ nx
        have kept : ∀ b ∈ fp1, ∀ o, s13.heap.get? b = some o → s16.heap.get? b = some o ∧ (upd H15 D (TxO X.prog X.w D (if kk ∈ l then l else kk :: l))) b = none := fun b hb o e => by
          have z := I16.pin (b, o) (List.mem_append_right _ (List.mem_append_right _ (mem_pinsAt hb e)))
          exact ⟨z.1, z.2.1⟩
        refine ⟨k', lt, j + 1, _, I16.unpinned.weak (by rw [← ew1, wipe_length]) (fun j v e => by rw [← ew1] at e; exact (wipe_some e).1), T1.keep _ _ _ at13 fun b hb o e => (kept b hb o e).1, fun b hb => ?_, w'⟩
        obtain ⟨o, e, _⟩ := T1.obj _ _ at13 b hb
        exact (kept b hb o e).2
    exact start_inner inner (T1.self X.A 0 _ _ _ at10 inner)
  exact PpSet.codeAny_compStart_set main (T.self X.A 0 _ _ _ at4 main)
theorem pe_sc2 (hc : X.calm = true) (hN : X.N.Nodup) (hi : PI X tg iter wi) (ok : BlkOk X.N X.env.scope scope own) (hv : ∀ i ∈ vs1, i ∈ own.map (·.2))
    (hg : ∀ (s : Shared) (H : Hp) (C : Addr) (cl : List (Str × Addr)) (fp : List Addr), PG (X.blk s H scope (blkE X scope cl C) fp) tg g)
    (hi1 : ∀ (s : Shared) (H : Hp) (C : Addr) (cl : List (Str × Addr)) (fp : List Addr), PI (X.blk s H scope (blkE X scope cl C) fp) tg1 iter1 wi1)
    (hg1 : ∀ (s : Shared) (H : Hp) (C : Addr) (cl : List (Str × Addr)) (fp : List Addr), PG (X.blk s H scope (blkE X scope cl C) fp) tg1 g1)
    (he : ∀ (s : Shared) (H : Hp) (C : Addr) (cl : List (Str × Addr)) (fp : List Addr), PE (X.blk s H scope (blkE X scope cl C) fp) elt te)
    (hs : ∀ x, foldedSetIterable iter X.env x = pure x := by intro _; rfl) (hs1 : ∀ env x, foldedSetIterable iter1 env x = pure x := by intro _ _; rfl) :
    PE X (twoSets elt tg iter tg1 iter1 scope pos) (tSc2 X.prog X.w wi g wi1 g1 te (own.map (·.2)) vs1) := by
  refine ⟨fun pins s σ H Q I h => ?_⟩
  rw [PpSet.eval_SetComp]
  refine sc2_core hc hN I hi ok hv hg hi1 hg1 he hs hs1 h fun D C s' m H' I' q hn f => ⟨m, hn, fun h'' sb => ?_⟩
  obtain ⟨f0, f1, f2, f3, f4, f5⟩ := f
  exact ⟨.ref D, H', I'.turned (t' := s'.toks) (fun b o hb e => (sb.2 b hb).trans e) f0 f1 f3 f4 f5, rfl, q⟩
theorem ps_setSc2 {i : Nat} {y : Str} {py spos : Pos} (hc : X.calm = true) (hN : X.N.Nodup) (hy : X.N[i]? = some y) (hyl : X.env.scope.names.lookup y = some .local)
    (hsw : swapsWith (twoSets elt tg iter tg1 iter1 scope pos) (some (.Name y py)) spos.line X.env = pure true) (hi : PI X tg iter wi) (ok : BlkOk X.N X.env.scope scope own) (hv : ∀ i ∈ vs1, i ∈ own.map (·.2))
    (hg : ∀ (s : Shared) (H : Hp) (C : Addr) (cl : List (Str × Addr)) (fp : List Addr), PG (X.blk s H scope (blkE X scope cl C) fp) tg g)
    (hi1 : ∀ (s : Shared) (H : Hp) (C : Addr) (cl : List (Str × Addr)) (fp : List Addr), PI (X.blk s H scope (blkE X scope cl C) fp) tg1 iter1 wi1)
    (hg1 : ∀ (s : Shared) (H : Hp) (C : Addr) (cl : List (Str × Addr)) (fp : List Addr), PG (X.blk s H scope (blkE X scope cl C) fp) tg1 g1)
    (he : ∀ (s : Shared) (H : Hp) (C : Addr) (cl : List (Str × Addr)) (fp : List Addr), PE (X.blk s H scope (blkE X scope cl C) fp) elt te)
    (hs : ∀ x, foldedSetIterable iter X.env x = pure x := by intro _; rfl) (hs1 : ∀ env x, foldedSetIterable iter1 env x = pure x := by intro _ _; rfl) :
    PS X (.Assign [.Name y py] (twoSets elt tg iter tg1 iter1 scope pos) spos) (tAsg (tSc2 X.prog X.w wi g wi1 g1 te (own.map (·.2)) vs1) (gName i)) := by
  refine ⟨fun pins s σ H D I h => ?_⟩
  rw [exec_Assign_Name_used _ _ _ _ hsw]
  refine wpAny_bind (wpAny_standAt (wpAny_bind ?_))
  show wpAny _ X.A (do let _ ← comprehension (twoSets elt tg iter tg1 iter1 scope pos) scope X.env (firstIterPos [⟨tg, iter, [], 0⟩, ⟨tg1, iter1, [], 0⟩] pos) (newSet (.type "set")) false (eval iter X.env) (some (assign (.Name y py) X.env))) _ _ s
  have h : tSc2 X.prog X.w wi g wi1 g1 te (own.map (·.2)) vs1 σ H (fun x H1 => gName i x σ H1 D.nx) := h
  refine wpAny_bind (thn (sc2_core (Qf := fun _ s' => SP X pins D .next s') hc hN I hi ok hv hg hi1 hg1 he hs hs1 h fun L C s' m H' I' q hn f => ?_) fun _ s' hq => wpAny_pure (wpAny_pure hq))
  show wpAny _ _ (assign (.Name y py) X.env (.ref L)) _ _ _
  refine wpAny_assign_Name (store_ok2 (v := V.ref L) I' hN hy (.inl hyl) rfl (fun s2 I2 ⟨a, sb, ha⟩ => ?_) (.inr hyl))
  obtain ⟨f0, f1, f2, f3, f4, f5⟩ := f
  have haC : C ≠ a := by
    rcases ha with z | z
    · rw [z]; exact f1
    · exact fun e => f4 y a z e.symm
  refine ⟨m, hn.sameBut sb haC, fun h3 sb3 => ?_⟩
  exact ⟨_, H', I2.turned (t' := s2.toks) (fun b o hb e => (sb3.2 b hb).trans e) f0 f1 f3 f4 f5, q⟩
theorem sw_trueS {elt : Expr} {gs : List Comprehension} {scope : Scope} {pos py : Pos} {y : Str} {l : Nat} {env : Env} (hk : env.scope.kind = .function) (hy : env.scope.names.lookup y = some .local) (hl : (py.line == pos.line) = true)
    (ha : (scope.names.any fun (n, k) => n == y && (k == .local || k == .cell)) = false) : swapsWith (.SetComp elt gs scope pos) (some (.Name y py)) l env = pure true := by
  have ky : env.kindOf y = some .local := hy
  have hb : env.blockKind = .function := by unfold Env.blockKind; rw [hk]; rfl
  unfold swapsWith
  simp only [hb, ky, ha, Expr.pos, hl]
  rfl
end
end Ver
set_option Elab.async false
set_option linter.all false
set_option maxRecDepth 100000
set_option maxHeartbeats 4000000
namespace Ver
open PySem PySem.Spec PyProof.Rows L2
def leS (a b : Str) : Prop := ¬ b.cps.toList < a.cps.toList
def ltSv (v u : Value) : Bool := decide ((strOf v).cps.toList < (strOf u).cps.toList)
theorem swo_str : SrtO.Swo ltSv := by
  refine ⟨fun x y h => ?_, fun x y z h1 h2 => ?_⟩
  · exact decide_eq_false (List.lt_asymm (of_decide_eq_true h))
  · have a := of_decide_eq_false (p := (strOf y).cps.toList < (strOf x).cps.toList) h1
    have b := of_decide_eq_false (p := (strOf z).cps.toList < (strOf y).cps.toList) h2
    exact decide_eq_false (List.not_lt.mpr (List.le_trans (List.not_lt.mp a) (List.not_lt.mp b)))
section
variable {prog : Program} {w : World} {A : Around} {E : Value → Shared → Prop} {s : Shared}
theorem str_cmp {vs : List Value} {ss : List Str} (hS : StrsAre vs ss) : SrtO.Cmp prog w A s oneType' (fun p => p.1 ∈ vs) (SrtO.lt2 ltSv) := by
  intro p q hp hq
  obtain ⟨a, t, e⟩ := hS.all _ hp
  obtain ⟨b, u, e'⟩ := hS.all _ hq
  show wpAny (model prog w) A (keyLt' oneType' p.1 q.1) (fun r s' => s' = s ∧ r = ltSv p.1 q.1) (fun _ _ => False) s
  rw [e, e', keyLt'_oneType]
  exact oneLt_str ⟨rfl, rfl⟩
theorem strs_sortable {a : Addr} {vs : List Value} {ss : List Str} (hS : StrsAre vs ss) (h2 : 2 ≤ vs.length) : SrtO.SortableO prog w A s a vs ltSv := by
  intro h' _
  refine ⟨oneType', fun Q E hq => ?_, str_cmp hS⟩
  match vs, hS, h2 with
  | v1 :: v2 :: rest, hS, _ =>
    rw [keyKind_strs hS]
    exact wpAny_pure hq
  | [], _, h => exact absurd h (by decide)
  | [v], _, h => exact absurd h (by simp)
end
theorem strs_out {vs out : List Value} {ss : List Str} (hS : StrsAre vs ss) (h1 : SrtO.Srtd ltSv out) (h2 : SrtO.Stb ltSv out vs) : StrsAre out (out.map strOf) ∧ (out.map strOf).Perm ss ∧ (out.map strOf).Pairwise leS := by
  refine ⟨strsAre_map out fun v hv => hS.all v (h2.perm.mem_iff.mp hv), ?_, ?_⟩
  · have q := h2.perm.map strOf
    rw [hS.strs] at q
    exact q
  · exact List.pairwise_map.mpr (h1.imp fun {x y} h => of_decide_eq_false (p := (strOf y).cps.toList < (strOf x).cps.toList) h)
theorem strs_of_vals : ∀ {xs : List Str} {us : List Value}, Vals (xs.map V.str) us → StrsAre us xs
  | [], _, h => by cases h; exact .nil
  | x :: xs, _, h => by
    cases h with
    | cons h1 h2 =>
      obtain ⟨t, rfl⟩ := h1
      exact .cons x t (strs_of_vals h2)
theorem vals_of_strs2 : ∀ {xs : List Str} {us : List Value}, StrsAre us xs → Vals (xs.map V.str) us
  | _, _, .nil => .nil
  | _, _, .cons x t h => .cons ⟨t, rfl⟩ (vals_of_strs2 h)
theorem perm_of_sub {α : Type} [DecidableEq α] : ∀ {l m : List α}, l.Nodup → (∀ x ∈ l, x ∈ m) → m.length ≤ l.length → l.Perm m
  | [], m, _, _, h => by
    have : m = [] := List.eq_nil_of_length_eq_zero (Nat.le_zero.mp h)
    rw [this]
  | x :: l, m, nd, sub, h => by
    have hx := sub x List.mem_cons_self
    have p := List.perm_cons_erase hx
    obtain ⟨n1, n2⟩ := List.nodup_cons.mp nd
    refine (List.Perm.cons x (perm_of_sub n2 (fun y hy => ?_) ?_)).trans p.symm
    · exact (List.mem_erase_of_ne (fun e => n1 (by rw [← e]; exact hy))).mpr (sub y (List.mem_cons_of_mem _ hy))
    · rw [List.length_erase_of_mem hx]
      rw [List.length_cons] at h
      omega
theorem str_shape {P : Program} {w : World} {k : Str} {v : Value} (h : (strKind P w).is k v = true) : ∃ u, v = .str k u := by
  have h' : Value.isStrOf k v = true := h
  cases v with
  | str x u =>
    have e : x = k := by simpa [Value.isStrOf] using h'
    exact ⟨u, by rw [e]⟩
  | _ => exact absurd h' (by simp [Value.isStrOf])
def rSortS (K : PySem.W.Frag) : List V → Hp → VK → Prop := fun vs H Q => ∃ (a : Addr) (xs : List Str), vs = [V.ref a] ∧ SqL K H a (xs.map V.str) ∧ ∀ (ys : List Str) (p : Addr), ys.Perm xs → ys.Pairwise leS → H p = none → Q (.ref p) (upd H p (.lst (ys.map V.str)))
def rSortTx (P : Program) (w : World) : List V → Hp → VK → Prop := fun vs H Q => ∃ (a : Addr) (l : List Str), vs = [V.ref a] ∧ H a = some (TxO P w a l) ∧ ∀ (ys : List Str) (p : Addr), ys.Perm l → ys.Pairwise leS → H p = none → Q (.ref p) (upd H p (.lst (ys.map V.str)))
section
variable {X : Cx}
theorem cr_sortS : CallR X (.builtin "sorted") (rSortS X.K) := by
  intro pins s σ H vs us Q I r h
  obtain ⟨a, xs, rfl, hs, q⟩ := h
  obtain ⟨its, rv, hl, hz⟩ := I.list hs
  rw [Vals.ref1 r]
  have hi := strs_of_vals rv
  refine SrtO.sorted_ord swo_str hl.isList (by rw [← rv.length]; exact hz) (fun h2 _ _ _ _ => strs_sortable hi h2) fun out h1 h2 => ?_
  obtain ⟨k1, k2, k3⟩ := strs_out hi h1 h2
  obtain ⟨ep, he⟩ := PyProof.Rows.sortedAll_at s.heap its out.toArray
  have hlen : ((out.map strOf).map V.str).length ≤ sizeLine := by
    rw [List.length_map, k2.length_eq]
    rw [List.length_map] at hz
    exact hz
  exact ⟨.ref _, upd H (s.heap.objs.size + 1) (.lst ((out.map strOf).map V.str)), I.laid (t' := s.toks) (fun _ _ => PyProof.Rows.sortedAll_old) (Nat.le_succ _) ⟨hlen, out, ep, vals_of_strs2 k1, he⟩, rfl, q _ _ k2 k3 (I.hok.fresh (Nat.le_succ _))⟩
theorem cr_sortTx (hc : X.calm = true) : CallR X (.builtin "sorted") (rSortTx X.prog X.w) := by
  intro pins s σ H vs us Q I r h
  obtain ⟨a, l, rfl, ha, q⟩ := h
  obtain ⟨⟨es, ep, t⟩, ho, tx, nd, lb, ris, led⟩ := txO_get I ha
  rw [Vals.ref1 r]
  have sz : es.size = l.length := tx.sz
  refine Calls.call_function_entry kind_sorted plain_sorted entry_sorted (args_sorted1 _) ?_
  unfold Builtin.«sorted»
  refine wpAny_bind (m := checkCount "sorted" 1 1 _) (wpAny_pure ?_)
  refine wpAny_bind (collect_set (A := X.A.in1) (I.ok.hd hc) ⟨_, ho, rfl, rfl⟩ tx.fit (by rw [sz]; exact lb) ris led fun s1 vs k1 hz g1 o1 pm => ?_)
  have len : vs.length = l.length := by rw [pm.length_eq, List.length_map, Array.length_toList, sz]
  have shape : ∀ v ∈ vs, ∃ x u, v = .str x u := fun v hv => by
    obtain ⟨e, he, q⟩ := List.mem_map.mp (pm.mem_iff.mp hv)
    obtain ⟨⟨k, h1, _⟩, _⟩ := tx.el e he
    obtain ⟨u, h2⟩ := str_shape h1
    exact ⟨k, u, q.symm.trans h2⟩
  have hS : StrsAre vs (vs.map strOf) := strsAre_map vs shape
  have same : (vs.map strOf).Perm l := (perm_of_sub nd (fun k hk => by
    obtain ⟨e, he, z⟩ := (tx.mem k).mp hk
    obtain ⟨u, h2⟩ := str_shape z
    exact List.mem_map.mpr ⟨e.2, pm.mem_iff.mpr (List.mem_map.mpr ⟨e, he, rfl⟩), by rw [h2]; rfl⟩) (by rw [List.length_map, len]; exact Nat.le_refl _)).symm
  have most : vs.length ≤ sizeLine := by
    rw [len, sizeLine_eq]
    have : scanBound ≤ 16777216 := by decide
    omega
  refine wpAny_bind (wpAny_newList ?_ most)
  have hoL : (s1.heap.push (seqObj "list" vs.toArray 0)).get? s1.heap.objs.size = some (seqObj "list" vs.toArray 0) := Heap.get?_push_size _ rfl
  refine wpAny_bind (wpAny_holding (wpAny_call_entry slot_list_sort ⟨_, hoL, rfl⟩ entry_list_sort (SrtO.list_sort_ord swo_str hoL most (fun h2 => strs_sortable hS h2) fun out h1 h2 => ⟨_, rfl, ?_⟩) (args_list_sort _)))
  obtain ⟨j1, j2, j3⟩ := strs_out hS h1 h2
  obtain ⟨c, hc2⟩ := sortedHeap_at (vs := vs) (out := out.toArray) hoL
  have hn : H s1.heap.objs.size = none := I.hok.fresh hz
  have hlen : ((out.map strOf).map V.str).length ≤ sizeLine := by
    rw [List.length_map, j2.length_eq, List.length_map]
    exact most
  have kept : ∀ b o, s.heap.get? b = some o → (sortedHeap (s1.heap.push (seqObj "list" vs.toArray 0)) s1.heap.objs.size vs out.toArray).get? b = some o := fun b o e => by
    have e1 := k1 b o e
    have lt := Heap.lt_size e1
    rw [sortedHeap_old (Nat.ne_of_lt lt) (by rw [size_push']; exact Nat.lt_succ_of_lt lt)]
    exact Heap.get?_push_of_some _ e1
  refine wpAny_pure ⟨_, rfl, ?_⟩
  refine ⟨.ref s1.heap.objs.size, upd H s1.heap.objs.size (.lst ((out.map strOf).map V.str)), ?_, rfl, q _ _ (j2.trans same) j3 hn⟩
  generalize sortedHeap (s1.heap.push (seqObj "list" vs.toArray 0)) s1.heap.objs.size vs out.toArray = h' at hc2 kept ⊢
  have e : ({ s1 with heap := h' } : Shared) = { s with heap := h', gens := s1.gens, drawn := s1.drawn, toks := s1.toks } := by
    cases s1
    cases s
    cases o1
    rfl
  rw [e]
  have ob : ObjOk X.prog X.w (upd H s1.heap.objs.size (.lst ((out.map strOf).map V.str))) h' s1.heap.objs.size (.lst ((out.map strOf).map V.str)) := ⟨hlen, out, c, vals_of_strs2 j1, hc2⟩
  exact I.call (ch := []) (Un.laid kept hz hn) (I.hok.laid kept hz ob) (by rw [g1]; exact I.bare) (fun _ z => nomatch z)
end
end Ver
set_option Elab.async false
set_option linter.all false
set_option maxRecDepth 100000
set_option maxHeartbeats 4000000
namespace Ver
open PySem PySem.Spec PyProof.Rows L2 LamX
def lenKey (x : Str) : PyData := .tuple [.int x.length, .str x]
def leLen (a b : Str) : Prop := a.length < b.length ∨ (a.length = b.length ∧ leS a b)
instance (a b : Str) : Decidable (leS a b) := inferInstanceAs (Decidable (¬ b.cps.toList < a.cps.toList))
instance (a b : Str) : Decidable (leLen a b) := inferInstanceAs (Decidable (_ ∨ _))
theorem str_of_list {a b : Str} (h : a.cps.toList = b.cps.toList) : a = b := by
  cases a; cases b
  have h' := Array.toList_inj.mp h
  simp only at h'
  rw [h']
theorem dataLt_len (a b : Str) : PySem.W.dataLt (lenKey a) (lenKey b) = decide (a.length < b.length ∨ (a.length = b.length ∧ a.cps.toList < b.cps.toList)) := by
  show PySem.W.dataLt (.tuple [.int (a.length : Int), .str a]) (.tuple [.int (b.length : Int), .str b]) = _
  rw [PySem.W.dataLt_pair (by rfl) (by rfl)]
  by_cases e : a.length = b.length
  · have e1 : PyData.eqv (.int (a.length : Int)) (.int (b.length : Int)) = true := by rw [e]; simp [PyData.eqv]
    rw [if_pos e1, PySem.W.dataLt_str]
    by_cases e2 : PyData.eqv (.str a) (.str b) = true
    · have e3 : a = b := by simpa [PyData.eqv] using e2
      subst e3
      rw [if_pos e2]
      simp [List.lt_irrefl]
    · rw [if_neg e2]
      simp [e]
  · have e1 : ¬ PyData.eqv (.int (a.length : Int)) (.int (b.length : Int)) = true := by
      simp [PyData.eqv]; omega
    rw [if_neg e1, PySem.W.dataLt_int]
    simp [e]
theorem dataLe_len : PySem.W.dataLe false lenKey = fun a b => decide (leLen a b) := by
  funext a b
  show (!PySem.W.dataLt (lenKey b) (lenKey a)) = _
  rw [dataLt_len]
  by_cases h : b.length < a.length ∨ (b.length = a.length ∧ b.cps.toList < a.cps.toList)
  · have h' : ¬ leLen a b := by
      rintro (z | ⟨z1, z2⟩)
      · rcases h with h | h <;> omega
      · rcases h with h | ⟨_, h⟩
        · omega
        · exact z2 h
    rw [decide_eq_true h, decide_eq_false h'] <;> rfl
  · have h' : leLen a b := by
      by_cases e : a.length = b.length
      · exact .inr ⟨e, fun z => h (.inr ⟨e.symm, z⟩)⟩
      · refine .inl ?_
        have : ¬ b.length < a.length := fun z => h (.inl z)
        omega
    rw [decide_eq_false h, decide_eq_true h'] <;> rfl
theorem leS_trans {a b c : Str} (h1 : leS a b) (h2 : leS b c) : leS a c := List.not_lt.mpr (List.le_trans (List.not_lt.mp h1) (List.not_lt.mp h2))
theorem leS_total (a b : Str) : leS a b ∨ leS b a := by
  rcases List.le_total a.cps.toList b.cps.toList with h | h
  · exact .inl (List.not_lt.mpr h)
  · exact .inr (List.not_lt.mpr h)
theorem leLen_trans {a b c : Str} (h1 : leLen a b) (h2 : leLen b c) : leLen a c := by
  rcases h1 with h1 | ⟨h1, k1⟩ <;> rcases h2 with h2 | ⟨h2, k2⟩
  · exact .inl (by omega)
  · exact .inl (by omega)
  · exact .inl (by omega)
  · exact .inr ⟨by omega, leS_trans k1 k2⟩
theorem leLen_total (a b : Str) : leLen a b ∨ leLen b a := by
  by_cases e : a.length = b.length
  · rcases leS_total a b with h | h
    · exact .inl (.inr ⟨e, h⟩)
    · exact .inr (.inr ⟨e.symm, h⟩)
  · by_cases q : a.length < b.length
    · exact .inl (.inl q)
    · exact .inr (.inl (by omega))
theorem lens_sorted (xs : List Str) : (xs.mergeSort (PySem.W.dataLe false lenKey)).Perm xs ∧ (xs.mergeSort (PySem.W.dataLe false lenKey)).Pairwise leLen := by
  refine ⟨List.mergeSort_perm _ _, ?_⟩
  rw [dataLe_len]
  refine (List.pairwise_mergeSort (le := fun a b => decide (leLen a b)) (fun a b c h1 h2 => decide_eq_true (leLen_trans (of_decide_eq_true h1) (of_decide_eq_true h2))) (fun a b => ?_) xs).imp fun {a b} h => of_decide_eq_true h
  rcases leLen_total a b with h | h
  · rw [decide_eq_true h, Bool.true_or]
  · rw [decide_eq_true h, Bool.or_true]
section
variable {X : Cx} {pins : List (Addr × Obj)} {σ : L2.St} {H : Hp} {s : Shared}
theorem lenkey_call {scope : Scope} {params : Arguments} {q : Str} {cl : List (Str × Addr)} {pm ctv : Value} {f c' : Addr} {a : Str} {p1 p2 p3 p4 p5 : Pos} {x : Str} {t : Tok} {h : Heap} {tk k5 : Nat} {A : Around}
    (I : Inv X pins σ H s) (hm : X.mg "len" = none)
    (hf : s.heap.get? f = some (PySem.W.kla_obj "<lambda>" q params (.Tuple [.Call (.Name "len" p1) [.Name a p2] [] p3, .Name a p4] k5 p5) scope cl pm c' ctv)) (hco : H c' = some (CodeO c' q))
    (hbind : ∀ (q : Str) (cl : List (Str × Addr)) (pm cv ctv v : Value), bindArgs (PySem.W.kla_fn "<lambda>" q params (.Tuple [.Call (.Name "len" p1) [.Name a p2] [] p3, .Name a p4] k5 p5) scope cl pm cv ctv) ⟨[v], []⟩ = pure [(a, v)])
    (hk : scope.kind = .function) (hcoR : scope.isCoroutine = false) (hgen : scope.isGenerator = false) (hcell : ∀ y ∈ scope.names, y.2 ≠ .cell) (hl : scope.names.lookup a = some .local) (hlen : scope.names.lookup ("len" : Str) = some .globalImplicit)
    (hd : (a == ("__debug__" : Str)) = false) (hr : A.depth < recursionLimit) (hx : x.length ≤ sizeLine) (kp : ∀ b o, s.heap.get? b = some o → h.get? b = some o) :
    wpAny (model X.prog X.w) A (call (.ref f) [.str x t]) (PySem.W.KeyPure (lenKey x) { s with heap := h, toks := tk }) (fun _ _ => False) { s with heap := h, toks := tk } := by
  obtain ⟨⟨oc, vs, tq, hoc, hdc, hvc⟩, _, _⟩ := I.hok c' _ hco
  obtain ⟨mb, b1, b2⟩ := I.mod.blt
  have kb : ∀ b o, X.base.get? b = some o → h.get? b = some o := fun b o e => kp b o (I.bk b o e)
  have rc : codeAny (model X.prog X.w) A (.call (.ref f) ⟨[.str x t], []⟩) (fun r s' => ∃ u, r = .ok (.ret u) ∧ PySem.W.KeyPure (lenKey x) { s with heap := h, toks := tk } u s') { s with heap := h, toks := tk } := by
    refine PySem.W.kla_callFunE hr (kp _ _ hf) rfl hcoR hgen rfl ⟨c', oc, vs, tq, rfl, kp _ _ hoc, hdc, hvc⟩ ?_
    rw [hbind]
    refine wpAny_pure (wpAny_newFunctionEnv hcell (fun y hy => ?_) (fun h₁ hns hsb => ⟨(I.nolimit.keeps kp).fresh _ hsb, ?_⟩) hk)
    · rw [List.mem_singleton.mp hy]
      exact hl
    have kp1 : ∀ b o, h.get? b = some o → h₁.get? b = some o := fun b o e => hsb.extBut b o (Nat.ne_of_lt (Heap.lt_size e)) (Heap.get?_push_of_some _ e)
    refine PySem.W.kla_codeExpr ?_
    show wpAny _ _ (eval _ (PySem.W.envX q scope h.objs.size f (.ref c') cl)) _ _ _
    refine wpAny_Tuple_spliced (args_cons (Call_ (Calls.Name_function_global hk hlen (Calls.loadGlobal_builtin (I.mod.glob.keeps fun b o e => kp1 b o (kb b o e)) hm (b1.keeps fun b o e => kp1 b o (kb b o e)) ((b2 "len" (by decide)).trans boot_len) ?_)) rfl) rfl)
    refine PyProof.Rows.callWith_builtin1 (args_cons (wpAny_Name (wpAny_loadName_local hk hl hns (v := .str x t) (by simp) ?_) hd) rfl) rfl rfl
    refine args_nil (len_str (by rw [sizeLine_eq] at hx; omega) ?_)
    refine args_cons (wpAny_Name (wpAny_loadName_local hk hl hns (v := .str x t) (by simp) ?_) hd) rfl
    refine args_nil ⟨by show 2 ≤ sizeLine; decide, ?_⟩
    refine ⟨_, rfl, _, _, rfl, fun b o e => Heap.get?_push_of_some _ (kp1 b o e), ?_⟩
    exact .tuple (Heap.get?_push_size _ rfl) rfl rfl (.cons (.int _ _) (.cons (.str _ _) .nil))
  exact wpAny_call (codeAny_mono rc fun r s' ⟨u, e, hq⟩ => by subst e; exact hq)
def tSortLen (K : PySem.W.Frag) (T : List (Addr × Str)) (te : TE) : TE := fun σ H Q => te σ H fun v H1 => ∃ (a : Addr) (xs : List Str), v = .ref a ∧ H1 a = some (.lst (xs.map V.str)) ∧ (∀ x ∈ xs, x.length ≤ sizeLine) ∧ Tabs T H1 ∧
  ∀ (H2 : Hp) (ys : List Str) (p : Addr), ExtN H1 H2 → Tabs T H2 → ys.Perm xs → ys.Pairwise leLen → H2 p = none → Q (.ref p) (upd H2 p (.lst (ys.map V.str)))
theorem strs_each : ∀ {vs : List Value} {xs : List Str}, StrsAre vs xs → PySem.W.EachIs (fun v (x : Str) => ∃ t, v = .str x t) vs xs
  | _, _, .nil => .nil
  | _, _, .cons x t h => .cons ⟨t, rfl⟩ (strs_each h)
theorem each_strs : ∀ {vs : List Value} {xs : List Str}, PySem.W.EachIs (fun v (x : Str) => ∃ t, v = .str x t) vs xs → StrsAre vs xs
  | _, _, .nil => .nil
  | _, _, .cons ⟨t, e⟩ h => by
    subst e
    exact .cons _ t (each_strs h)
theorem pe_sortLen {T : List (Addr × Str)} {c P : Addr} {k k5 : Nat} {e : Expr} {te : TE} {a : Str} {params : Arguments} {scope : Scope} {p pos lpos kpos p1 p2 p3 p4 p5 : Pos}
    (hr : Room k X.A) (TB : TabB X.base X.mg c P) (hcode : X.env.code = .ref c) (hmT : (P, X.env.qual ++ "<lambda>") ∈ T) (hu : ∀ p ∈ T, p.1 = P → p.2 = X.env.qual ++ "<lambda>")
    (hg : Gl X "sorted") (hmS : X.mg "sorted" = none) (hmL : X.mg "len" = none) (he : PE X e te)
    (hk : scope.kind = .function := by rfl) (hcoR : scope.isCoroutine = false := by rfl) (hgen : scope.isGenerator = false := by rfl) (hcell : ∀ y ∈ scope.names, y.2 ≠ .cell ∧ y.2 ≠ .free := by decide) (hl : scope.names.lookup a = some .local := by rfl)
    (hlen : scope.names.lookup ("len" : Str) = some .globalImplicit := by rfl) (hd : (a == ("__debug__" : Str)) = false := by decide) (hdef : defaultsOf params X.env = ([], []) := by rfl)
    (hbind : ∀ (q : Str) (cl : List (Str × Addr)) (pm cv ctv v : Value), bindArgs (PySem.W.kla_fn "<lambda>" q params (.Tuple [.Call (.Name "len" p1) [.Name a p2] [] p3, .Name a p4] k5 p5) scope cl pm cv ctv) ⟨[v], []⟩ = pure [(a, v)] := by intros; rfl)
    (hs : backTo pos (starEach [e] X.env) = (false, eval e X.env) :: backTo pos (starEach [] X.env) := by rfl) :
    PE X (.Call (.Name "sorted" p) [e] [⟨some "key", .Lambda params (.Tuple [.Call (.Name "len" p1) [.Name a p2] [] p3, .Name a p4] k5 p5) scope lpos, kpos⟩] pos) (tSortLen X.K T te) := by
  refine ⟨fun pins s σ H Q I h => ?_⟩
  refine wpAny_Call_Name_kw (ld_blt I hg hmS boot_sorted ?_)
  refine PyProof.Rows.callWith_kw ?_ hs (by rw [hs] <;> rfl) (by rfl) (by rfl)
  rw [hs]
  refine Calls.spliced_cons (thn (he.run pins s σ H _ I h) fun u s1 ⟨v, H1, I1, r1, q1⟩ => ?_)
  obtain ⟨l, xs, rfl, hl1, hx, hT, q⟩ := q1
  obtain rfl : u = Value.ref l := r1
  refine args_nil ?_
  refine kws_cons (lam_make2 I1 TB hcode hmT hu hT hdef (fun y hy z => absurd z (hcell y hy).2) fun f c' pm' ctv H2 s2 I2 eN T2 hf hfn hfr hco => ?_)
  refine kws_nil ?_
  have hl2 : H2 l = some (.lst (xs.map V.str)) := eN _ _ hl1 fun ps z => by cases z
  obtain ⟨hz, its, n, rv, ho⟩ := I2.hok l _ hl2
  have hi := strs_of_vals rv
  have hlen2 : xs.length ≤ sizeLine := by rw [List.length_map] at hz; exact hz
  have pl := lens_sorted xs
  refine PySem.W.sorted_key_data (b := false) lenKey (R := fun v (x : Str) => ∃ t, v = .str x t) (bs := xs) ⟨_, ho, rfl, _, rfl⟩ (strs_each hi) (PySem.W.AllAlike.of fun b b' => by rfl) (PySem.W.Sortable.tuples fun b => ⟨_, _, rfl⟩) hlen2 (fun x _ => ?_)
    (PyProof.Rows.ksk_s1 _ _) (fun _ => PyProof.Rows.ksk_l1 _ _) (fun _ => PyProof.Rows.ksk_t1 _ _) (fun v x hv hm h tk kp => ?_) fun out cc h' tk kp fr hD hlo eo => ?_
  · have := hr.un
    have hd : (lenKey x).depth = 1 := by simp [lenKey, PyData.depth, PyData.depthAll]
    omega
  · obtain ⟨t, rfl⟩ := hv
    exact lenkey_call I2 hmL hf hco hbind hk hcoR hgen (fun y hy => (hcell y hy).1) hl hlen hd hr.depth (hx x hm) kp
  · have so := each_strs eo
    have hn : H2 (s2.heap.objs.size + 1) = none := I2.hok.fresh (Nat.le_succ _)
    have hll : ((xs.mergeSort (PySem.W.dataLe false lenKey)).map V.str).length ≤ sizeLine := by
      rw [List.length_map, pl.1.length_eq]
      exact hlen2
    refine ⟨.ref _, upd H2 (s2.heap.objs.size + 1) (.lst ((xs.mergeSort (PySem.W.dataLe false lenKey)).map V.str)), I2.laid (t' := tk) kp (Nat.le_succ _) ⟨hll, out, cc, vals_of_strs2 so, hD⟩, rfl, q _ _ _ eN T2 pl.1 pl.2 hn⟩
end
theorem Fun.okC {P : Program} {w : World} {K : PySem.W.Frag} {mg : Str → Option Value} {base : Heap} {x qual : Str} {st : Stmt} {f c : Addr} {fd : FuncData} {N ps : List Str} {k : Nat} {sp : Sp} (F : Fun K x qual st f fd) (hc : fd.code = .ref c) (S : FnScope N ps (defScope st)) (len : ∀ vs H Q E, sp vs H Q E → vs.length = ps.length)
    (hbody : ∀ (A : Around) (outer : List Env) (s : Shared) (H : Hp) (vs : List V) (Q : VK) (E : XK), Room k (A.deeper (envOfC qual (defScope st) s.heap.objs.size f (.ref c))) → sp vs H Q E →
      ∃ t, PSs (cxOf CX0 P w K mg base N qual (defScope st) f (.ref c) A outer s H E).nox (defBody st) t ∧ t { nx := fun _ H' => Q .non H', rt := Q } (start N vs) H) : FnOk P w K mg base CX0 (k + 1) f fd ps sp := by
  obtain ⟨oc, od, kV, doc, pm, an, cdv, ct, osl, rfl, lk, hcd⟩ := F.ex
  have hc' : cdv = .ref c := hc
  subst hc'
  refine fn_of lk hcd S len fun A outer s H vs Q E hr hsp => ?_
  obtain ⟨t, h, q⟩ := hbody A outer s H vs Q E hr hsp
  exact ⟨t, h.nox, q⟩
end Ver
set_option Elab.async false
set_option linter.all false
set_option maxRecDepth 100000
set_option maxHeartbeats 2000000
namespace Ver
open PySem PySem.Spec PyProof.Rows L2
theorem it_tup {K : PySem.W.Frag} {a : Addr} {xs : List V} {H0 : Hp} {Qd : Hp → Prop} {B : V → Hp → (Hp → Prop) → Prop} (S : Nat → Hp → Prop) (h0 : S 0 H0) (hl : ∀ i H, S i H → SqT K H a xs)
    (hs : ∀ i x H, xs[i]? = some x → S i H → B x H (S (i + 1))) (hd : ∀ H, S xs.length H → Qd H) :
    ∃ W : Nat → Nat → Hp → Prop, (∃ m, W 0 m H0) ∧ ∀ i m H, W i m H →
      ((Itt K a).stop i H ∧ Qd H) ∨ ((Itt K a).go i H ∧ ∃ Nx : Hp → Prop, (∀ H', Nx H' → ∃ m', m' < m ∧ W (i + 1) m' H') ∧ ∀ x H', (Itt K a).yld i H x H' → B x H' Nx) := by
  refine ⟨fun i m H => i + m = xs.length ∧ S i H, ⟨xs.length, Nat.zero_add _, h0⟩, fun i m H ⟨e, p⟩ => ?_⟩
  have st := hl i H p
  by_cases lt : i < xs.length
  · refine .inr ⟨⟨xs, xs[i], st, List.getElem?_eq_getElem lt⟩, S (i + 1), fun H' q => ⟨m - 1, by omega, by omega, q⟩, fun x H' y => ?_⟩
    obtain ⟨e1, y⟩ := y
    subst e1
    exact hs i x _ (y xs st) p
  · have : i = xs.length := by omega
    subst this
    exact .inl ⟨⟨xs, st, Nat.le_refl _⟩, hd H p⟩
theorem it_range {n : Nat} {H0 : Hp} {Qd : Hp → Prop} {B : V → Hp → (Hp → Prop) → Prop} (S : Nat → Hp → Prop) (h0 : S 0 H0)
    (hs : ∀ i H, i < n → S i H → B (.int (i : Int)) H (S (i + 1))) (hd : ∀ H, S n H → Qd H) :
    ∃ W : Nat → Nat → Hp → Prop, (∃ m, W 0 m H0) ∧ ∀ i m H, W i m H →
      ((Itr 0 n).stop i H ∧ Qd H) ∨ ((Itr 0 n).go i H ∧ ∃ Nx : Hp → Prop, (∀ H', Nx H' → ∃ m', m' < m ∧ W (i + 1) m' H') ∧ ∀ x H', (Itr 0 n).yld i H x H' → B x H' Nx) := by
  refine ⟨fun i m H => i + m = n ∧ S i H, ⟨n, Nat.zero_add _, h0⟩, fun i m H ⟨e, p⟩ => ?_⟩
  by_cases lt : i < n
  · refine .inr ⟨lt, S (i + 1), fun H' q => ⟨m - 1, by omega, by omega, q⟩, fun x H' y => ?_⟩
    obtain ⟨e1, y⟩ := y
    subst e1 y
    rw [Int.zero_add]
    exact hs i _ lt p
  · have : i = n := by omega
    subst this
    exact .inl ⟨Nat.le_refl _, hd H p⟩
def takeS (z : Str) (k : Nat) : Str := ⟨(z.cps.toList.take k).toArray⟩
theorem takeS_len {z : Str} {k : Nat} (h : k ≤ z.length) : (takeS z k).length = k := by
  show (z.cps.toList.take k).toArray.size = k
  rw [List.size_toArray, List.length_take, Array.length_toList]
  exact Nat.min_eq_left h
def IsInner (ts : List Str) (z : Str) : Prop := ∃ t ∈ ts, ∃ k, k < t.length ∧ z = takeS t k
structure Inner (ts R : List Str) : Prop where
  nd : R.Nodup
  mem : ∀ z, z ∈ R ↔ IsInner ts z
  ord : R.Pairwise leLen
end Ver
set_option Elab.async false
set_option linter.all false
set_option maxRecDepth 100000
set_option maxHeartbeats 2000000
namespace K58
open PySem PySem.Spec PyProof.Rows L2 Ver LamX
def TT (P S : Addr) : List (Addr × Str) := [(P, "by_length" ++ ".<locals>." ++ "<lambda>"), (S, "speller" ++ ".<locals>." ++ "<lambda>")]
structure Tb {K : PySem.W.Frag} {mg : Str → Option Value} (T : Tx K mg) (base : Heap) (cc cP cd cS : Addr) : Prop where
  code : T.d_by_length.code = .ref cc
  tab : TabB base mg cc cP
  code2 : T.d_speller.code = .ref cd
  tab2 : TabB base mg cd cS
  ne : cP ≠ cS
section
variable {P : Program} {w : World} {K : PySem.W.Frag} {mg : Str → Option Value} {base : Heap}
def sp_by_length (K : PySem.W.Frag) (TS : List (Addr × Str)) : Sp := fun vs H Q _ => ∃ (a : Addr) (xs : List Str), vs = [.ref a] ∧ H a = some (.lst (xs.map V.str)) ∧ (∀ x ∈ xs, x.length ≤ 1000) ∧ Tabs TS H ∧
  ∀ (H2 : Hp) (ys : List Str) (p : Addr), ExtN H H2 → Tabs TS H2 → ys.Perm xs → ys.Pairwise leLen → H2 p = some (.lst (ys.map V.str)) → Q (.ref p) H2
theorem ok_by_length {cc cP cd cS : Addr} (T : Tx K mg) (TB : Tb T base cc cP cd cS) : FnOk P w K mg base CX0 1 T.f_by_length T.d_by_length ["things"] (sp_by_length K (TT cP cS)) := by
  refine Fun.okC T.F_by_length TB.code sc_by_length (fun vs H Q E h => ?_) (fun A outer s H vs Q E hr h => ?_)
  · obtain ⟨a, xs, rfl, _⟩ := h; rfl
  · obtain ⟨a, xs, rfl, ha, hl, hT, q⟩ := h
    refine ⟨_, (pss_one (ps_ret (pe_sortLen (T := TT cP cS) hr TB.tab rfl List.mem_cons_self (fun p hp e => by rcases List.mem_cons.mp hp with z | z; rw [z] <;> rfl; rw [List.mem_singleton.mp z] at e; exact absurd e.symm TB.ne) (by rfl) T.n_sorted T.n_len (pv 0)))), ?_⟩
    refine ⟨.ref a, rfl, a, xs, rfl, ha, fun x hx => small' (Nat.le_trans (hl x hx) (by decide)), hT, fun H2 ys p e t pm pw n => ?_⟩
    exact q _ ys p (e.trans (ExtN.of (same_new n))) (t.ext (same_new n)) pm pw upd_same
def sp_inner_texts (K : PySem.W.Frag) (TS : List (Addr × Str)) : Sp := fun vs H Q _ => ∃ (t : Addr) (ts : List Str), vs = [.ref t] ∧ SqT K H t (ts.map V.str) ∧ ts.length ≤ 200 ∧ (∀ z ∈ ts, z.length ≤ 12) ∧ Tabs TS H ∧
  ∀ (H2 : Hp) (R : List Str) (p : Addr), ExtN H H2 → Tabs TS H2 → Inner ts R → H2 p = some (.tup (R.map V.str)) → Q (.ref p) H2
theorem ok_inner_texts {cc cP cd cS : Addr} (T : Tx K mg) (TB : Tb T base cc cP cd cS) : FnOk P w K mg base CX0 2 T.f_inner_texts T.d_inner_texts ["tokens"] (sp_inner_texts K (TT cP cS)) := by
  refine T.F_inner_texts.ok sc_inner_texts (fun vs H Q E h => ?_) (fun cdv A outer s H vs Q E hr h => ?_)
  · obtain ⟨t, ts, rfl, _⟩ := h; rfl
  · obtain ⟨t, ts, rfl, hT, hl, hz, hB, q⟩ := h
    refine ⟨_, (pss_cons (ps_setSc2 (i := 1) (own := [("token", 2), ("k", 3)]) (g := gName 2) (g1 := gName 3) (vs1 := [3]) rfl sc_inner_texts.nd rfl rfl (sw_trueS rfl rfl rfl (by decide +kernel)) (pi_tup (pv 0)) (blkOk_by (N := ["tokens", "found", "token", "k"]) (sc := defScope s_inner_texts) (by decide +kernel)) (by decide) (fun _ _ _ _ _ => (pg_name (i := 2) sc_inner_texts.nd rfl (Or.inl rfl))) (fun _ _ _ _ _ => (pi_range1 rfl T.n_range (pa_cons (pe_callB call_len_str (by rfl) T.n_len (by decide +kernel) (pa_cons (pv 2) pa_nil)) pa_nil))) (fun _ _ _ _ _ => (pg_name (i := 3) sc_inner_texts.nd rfl (Or.inl rfl))) (fun _ _ _ _ _ => (pe_slice C8.sl_txt (pv 2) po_none (po_some (pv 3)))))
    (pss_one (ps_ret (pe_callTy call_tuple_of (by rfl) T.n_tuple (by decide +kernel) (pa_cons (pe_call (ok_by_length T TB) hr rfl T.g_by_length T.F_by_length.kp T.b_by_length .nil pass0 (pa_cons (pe_callB (cr_sortTx (by rfl)) (by rfl) T.n_sorted (by decide +kernel) (pa_cons (pv 1) pa_nil)) pa_nil)) pa_nil))))), ?_⟩
    refine ⟨.ref t, rfl, t, rfl, ⟨_, hT⟩, fun D nD => ?_⟩
    have s0 := same_new (o := TxO P w D []) nD
    refine it_tup (K := K) (a := t) (xs := ts.map V.str) (fun i H' => Same H H' ∧ ∃ l : List Str, H' D = some (TxO P w D l) ∧ l.Nodup ∧ (∀ z, z ∈ l ↔ IsInner (ts.take i) z) ∧ l.length ≤ 12 * i)
      ⟨s0, [], upd_same, List.nodup_nil, fun z => ⟨fun h => absurd h (by simp), fun ⟨t, ht, _⟩ => absurd ht (by simp)⟩, by simp⟩ (fun i H' h => seqT_grow h.1 hT) (fun i x H' e h => ?_) (fun H' h => ?_)
    · obtain ⟨s1, l, hD, nd, mem, len⟩ := h
      obtain ⟨z, ez, rfl⟩ : ∃ z, ts[i]? = some z ∧ V.str z = x := by
        rw [List.getElem?_map] at e
        cases ez : ts[i]? with
        | none => rw [ez] at e; cases e
        | some z => rw [ez] at e; exact ⟨z, rfl, Option.some.inj e⟩
      have lt : i < ts.length := (List.getElem?_eq_some_iff.mp ez).1
      have z12 : z.length ≤ 12 := hz z (List.mem_of_getElem? ez)
      refine ⟨by rfl, .str z, rfl, z, rfl, small' (by omega), z.length, rfl, by omega, by omega, ?_⟩
      refine it_range (n := ((z.length : Nat) : Int).toNat) (fun j H' => Same H H' ∧ ∃ l : List Str, H' D = some (TxO P w D l) ∧ l.Nodup ∧ (∀ y, y ∈ l ↔ IsInner (ts.take i) y ∨ ∃ k, k < j ∧ y = takeS z k) ∧ l.length ≤ 12 * i + j)
        ⟨s1, l, hD, nd, fun y => ⟨fun h => .inl ((mem y).mp h), fun h => h.elim (mem y).mpr fun ⟨k, hk, _⟩ => absurd hk (Nat.not_lt_zero k)⟩, by omega⟩ (fun j H2 ltj h => ?_) (fun H2 h => ?_)
      · obtain ⟨s2, l2, hD2, nd2, mem2, len2⟩ := h
        have es : Txt.slice z none (some (j : Int)) = takeS z j := by
          have e9 := SX.slice_to (a := z.cps.toList) (i := (j : Int)) (by omega)
          rw [SX.S_tl] at e9
          rw [e9]
          rfl
        have sb : 3000 < scanBound := by decide
        refine ⟨by rfl, .str z, rfl, .int (j : Int), rfl, (j : Int), rfl, z, rfl, small' (by omega), takeS z j, l2, by rw [es], hD2, by omega, ?_⟩
        refine ⟨fun b o eb => ?_, _, upd_same, ?_, fun y => ?_, ?_⟩
        · rw [upd_ne (ne_of_none eb nD)]
          exact s2 b o eb
        · split
          · exact nd2
          · rename_i hn
            exact List.nodup_cons.mpr ⟨hn, nd2⟩
        · have step : (∃ k, k < j + 1 ∧ y = takeS z k) ↔ ((∃ k, k < j ∧ y = takeS z k) ∨ y = takeS z j) := by
            constructor
            · rintro ⟨k, hk, e9⟩
              rcases Nat.lt_or_eq_of_le (Nat.le_of_lt_succ hk) with h | h
              · exact .inl ⟨k, h, e9⟩
              · exact .inr (h ▸ e9)
            · rintro (⟨k, hk, e9⟩ | e9)
              · exact ⟨k, Nat.lt_succ_of_lt hk, e9⟩
              · exact ⟨j, Nat.lt_succ_self j, e9⟩
          rw [step]
          split
          · rename_i hm
            rw [mem2 y]
            constructor
            · rintro (h | h)
              · exact .inl h
              · exact .inr (.inl h)
            · rintro (h | h | h)
              · exact .inl h
              · exact .inr h
              · rw [h]
                exact (mem2 _).mp hm
          · rw [List.mem_cons, mem2 y]
            constructor
            · rintro (h | h | h)
              · exact .inr (.inr h)
              · exact .inl h
              · exact .inr (.inl h)
            · rintro (h | h | h)
              · exact .inr (.inl h)
              · exact .inr (.inr h)
              · exact .inl h
        · split
          · omega
          · rw [List.length_cons]; omega
      · obtain ⟨s2, l2, hD2, nd2, mem2, len2⟩ := h
        have ej : ((z.length : Nat) : Int).toNat = z.length := by omega
        rw [ej] at mem2 len2
        refine ⟨s2, l2, hD2, nd2, fun y => (mem2 y).trans ?_, by omega⟩
        rw [List.take_add_one, ez]
        constructor
        · rintro (⟨t, ht, k, hk, e⟩ | ⟨k, hk, e⟩)
          · exact ⟨t, List.mem_append_left _ ht, k, hk, e⟩
          · exact ⟨z, List.mem_append_right _ (List.mem_singleton.mpr rfl), k, hk, e⟩
        · rintro ⟨t9, ht, k, hk, e9⟩
          rcases List.mem_append.mp ht with ht | ht
          · exact .inl ⟨t9, ht, k, hk, e9⟩
          · have e8 : t9 = z := List.mem_singleton.mp ht
            exact .inr ⟨k, e8 ▸ hk, e8 ▸ e9⟩
    · obtain ⟨s1, l, hD, nd, mem, len⟩ := h
      rw [List.length_map] at mem len
      rw [List.take_length] at mem
      refine ⟨.ref D, rfl, D, l, rfl, hD, fun ys p pm pw np => ?_⟩
      have s2 := s1.trans (same_new (o := .lst (ys.map V.str)) np)
      refine ⟨p, ys, rfl, upd_same, fun x hx => ?_, hB.ext s2, fun H3 zs r ex tb pm2 pw2 hr => ?_⟩
      · obtain ⟨t9, ht, k, hk, e9⟩ := (mem x).mp (pm.mem_iff.mp hx)
        have := hz t9 ht
        rw [e9, takeS_len (Nat.le_of_lt hk)]
        omega
      refine ⟨r, zs.map V.str, rfl, .inl ⟨.inl (.inl hr), fun L nL => ?_⟩⟩
      have pm3 := pm2.trans pm
      exact q _ zs L (((ExtN.of s2).trans ex).trans (ExtN.of (same_new nL))) (tb.ext (same_new nL)) ⟨pm3.nodup_iff.mpr nd, fun z => pm3.mem_iff.trans (mem z), pw2⟩ upd_same
end
end K58
set_option Elab.async false
set_option linter.all false
set_option maxRecDepth 100000
set_option maxHeartbeats 2000000
namespace K58
open PySem PySem.Spec PyProof.Rows L2 Ver
theorem rowD_ints {n : Nat} {d : PyData} (h : rowD n d = true) : ∃ r : List Int, d = .tuple (r.map PyData.int) ∧ ∀ t ∈ r, 0 ≤ t ∧ t < n := by
  cases d
  case tuple ds =>
    have h' : (ds.all (belowD n) && decide (ds.length ≤ 60)) = true := h
    rw [Bool.and_eq_true] at h'
    have key : ∀ ds : List PyData, ds.all (belowD n) = true → ∃ r : List Int, ds = r.map PyData.int ∧ ∀ t ∈ r, 0 ≤ t ∧ t < n := by
      intro ds
      induction ds with
      | nil => intro _; exact ⟨[], rfl, fun t ht => by simp at ht⟩
      | cons d ds ih =>
        intro e
        rw [List.all_cons, Bool.and_eq_true] at e
        obtain ⟨r, rfl, hr⟩ := ih e.2
        cases d
        case int i =>
          have e1 : (decide (0 ≤ i) && decide (i < (n : Int))) = true := e.1
          rw [Bool.and_eq_true, decide_eq_true_eq, decide_eq_true_eq] at e1
          refine ⟨i :: r, rfl, fun t ht => ?_⟩
          rcases List.mem_cons.mp ht with rfl | ht
          · exact e1
          · exact hr t ht
        all_goals exact absurd e.1 Bool.false_ne_true
    obtain ⟨r, e, hr⟩ := key ds h'.1
    exact ⟨r, by rw [e], hr⟩
  all_goals exact absurd h Bool.false_ne_true
theorem ints_of_dp {K : PySem.W.Frag} {H : Hp} : ∀ {r : List Int} {xs : List V}, DpAll K H xs (r.map PyData.int) → xs = r.map V.int
  | [], _, h => by cases h; rfl
  | t :: r, _, h => by
    cases h with
    | cons h1 h2 =>
      cases h1
      rw [ints_of_dp h2]
      rfl
def IsRow (_ : PySem.W.Frag) (H : Hp) (v : V) (r : List Int) : Prop := ∃ p, v = .ref p ∧ H p = some (.tup (r.map V.int))
abbrev Rows (K : PySem.W.Frag) (H : Hp) (vs : List V) (rs : List (List Int)) : Prop := Paired (IsRow K H) vs rs
theorem Rows.grow {K : PySem.W.Frag} {H H' : Hp} (e : Same H H') : ∀ {vs : List V} {rs : List (List Int)}, Rows K H vs rs → Rows K H' vs rs
  | _, _, .nil => .nil
  | _, _, .cons ⟨p, h1, h2⟩ t => .cons ⟨p, h1, e _ _ h2⟩ (Rows.grow e t)
theorem Rows.getT {K : PySem.W.Frag} {H : Hp} : ∀ {vs : List V} {rs : List (List Int)} {i : Nat} {r : List Int}, Rows K H vs rs → rs[i]? = some r → ∃ p, vs[i]? = some (.ref p) ∧ H p = some (.tup (r.map V.int))
  | _, _, i, r, .nil, e => by simp at e
  | _, _, 0, r, .cons ⟨p, h1, h2⟩ t, e => by
    have e' := Option.some.inj e
    subst e' h1
    exact ⟨p, rfl, h2⟩
  | _, _, i + 1, r, .cons _ t, e => Rows.getT (i := i) t e
theorem Rows.get {K : PySem.W.Frag} {H : Hp} {vs : List V} {rs : List (List Int)} {i : Nat} {r : List Int} (h : Rows K H vs rs) (e : rs[i]? = some r) : ∃ p, vs[i]? = some (.ref p) ∧ SqT K H p (r.map V.int) := by
  obtain ⟨p, h1, h2⟩ := h.getT e
  exact ⟨p, h1, .inl (.inl h2)⟩
theorem at_map {r : List Int} {i x : Int} (h0 : 0 ≤ i) (e : r[i.toNat]? = some x) : atI (r.map V.int) i = some (.int x) := by
  have e0 : i = ((i.toNat : Nat) : Int) := by omega
  rw [e0]
  exact atI_nat (j := i.toNat) (by rw [List.getElem?_map, e]; rfl)
theorem at_ref {xs : List V} {i : Int} {p : Addr} (h0 : 0 ≤ i) (e : xs[i.toNat]? = some (.ref p)) : atI xs i = some (.ref p) := by
  have e0 : i = ((i.toNat : Nat) : Int) := by omega
  rw [e0]
  exact atI_nat (j := i.toNat) e
end K58
set_option Elab.async false
set_option linter.all false
set_option maxRecDepth 100000
set_option maxHeartbeats 2000000
namespace K58
open PySem PySem.Spec PyProof.Rows L2 Ver
theorem seqT_upd {K : PySem.W.Frag} {H : Hp} {L p : Addr} {ys xs : List V} {o : HO} (hL : H L = some (.lst ys)) (h : SqT K H p xs) : SqT K (upd H L o) p xs := by
  rcases h with (h | ⟨u, h⟩) | h
  · refine .inl (.inl ?_)
    rw [upd_ne (ne_of h hL (by intro z; cases z))]
    exact h
  · refine .inl (.inr ⟨u, ?_⟩)
    rw [upd_ne (ne_of h hL (by intro z; cases z))]
    exact h
  · exact .inr h
theorem tup_upd {H : Hp} {L p : Addr} {ys xs : List V} {o : HO} (hL : H L = some (.lst ys)) (h : H p = some (.tup xs)) : upd H L o p = some (.tup xs) := by
  rw [upd_ne (ne_of h hL (by intro z; cases z))]
  exact h
theorem Rows.upd {K : PySem.W.Frag} {H : Hp} {L : Addr} {ys : List V} {o : HO} (hL : H L = some (.lst ys)) : ∀ {vs : List V} {rs : List (List Int)}, Rows K H vs rs → Rows K (upd H L o) vs rs
  | _, _, .nil => .nil
  | _, _, .cons ⟨p, h1, h2⟩ t => .cons ⟨p, h1, tup_upd hL h2⟩ (Rows.upd hL t)
theorem Rows.app {K : PySem.W.Frag} {H : Hp} : ∀ {vs us : List V} {rs qs : List (List Int)}, Rows K H vs rs → Rows K H us qs → Rows K H (vs ++ us) (rs ++ qs)
  | _, _, _, _, .nil, h => h
  | _, _, _, _, .cons h1 t, h => .cons h1 (Rows.app t h)
theorem same_upd2 {H H1 : Hp} {L : Addr} {o : HO} (s : Same H H1) (n : H L = none) : Same H (upd H1 L o) := fun b x e => by
  rw [upd_ne (ne_of_none e n)]
  exact s b x e
def extG (m : Nat) (r : List Int) : List (List Int) := (List.range m).map fun t => r ++ [((t : Nat) : Int)]
def layG (m : Nat) : Nat → List (List Int)
  | 0 => [[]]
  | n + 1 => (layG m n).flatMap (extG m)
def rowsG (m n : Nat) : List (List Int) := (List.range (n + 1)).flatMap (layG m)
theorem rowsG_succ (m n : Nat) : rowsG m (n + 1) = rowsG m n ++ layG m (n + 1) := by
  unfold rowsG
  rw [List.range_succ, List.flatMap_append, List.flatMap_singleton]
theorem layG_len (m : Nat) : ∀ n, (layG m n).length = m ^ n
  | 0 => rfl
  | n + 1 => by
    show ((layG m n).flatMap (extG m)).length = m ^ (n + 1)
    rw [List.length_flatMap, Nat.pow_succ, ← layG_len m n]
    generalize layG m n = l
    induction l with
    | nil => simp
    | cons a l ih =>
      rw [List.map_cons, List.sum_cons, ih, List.length_cons]
      have : (extG m a).length = m := by unfold extG; rw [List.length_map, List.length_range]
      rw [this, Nat.succ_mul, Nat.add_comm]
theorem layG_mem {m : Nat} : ∀ {n : Nat} {r : List Int}, r ∈ layG m n → r.length = n ∧ ∀ t ∈ r, 0 ≤ t ∧ t < (m : Int)
  | 0, r, h => by
    rw [List.mem_singleton.mp h]
    exact ⟨rfl, fun t ht => by simp at ht⟩
  | n + 1, r, h => by
    obtain ⟨a, ha, hr⟩ := List.mem_flatMap.mp (show r ∈ (layG m n).flatMap (extG m) from h)
    obtain ⟨t, ht, rfl⟩ := List.mem_map.mp (show r ∈ (List.range m).map fun t => a ++ [((t : Nat) : Int)] from hr)
    obtain ⟨l, al⟩ := layG_mem ha
    refine ⟨by rw [List.length_append, l]; rfl, fun u hu => ?_⟩
    rcases List.mem_append.mp hu with hu | hu
    · exact al u hu
    · rw [List.mem_singleton.mp hu]
      have := List.mem_range.mp ht
      omega
theorem pow_le {m n : Nat} (hm : m ≤ 4) (hn : n ≤ 6) : m ^ n ≤ 4096 := by
  have h1 : m ^ n ≤ 4 ^ n := Nat.pow_le_pow_left hm n
  have h2 : 4 ^ n ≤ 4 ^ 6 := Nat.pow_le_pow_right (by decide) hn
  have h3 : 4 ^ 6 = 4096 := by decide
  omega
theorem rowsG_len {m : Nat} (hm : m ≤ 4) : ∀ n, n ≤ 6 → (rowsG m n).length ≤ 4096 * (n + 1)
  | 0, _ => by
    have : (rowsG m 0).length = 1 := rfl
    omega
  | n + 1, h => by
    rw [rowsG_succ, List.length_append, layG_len]
    have h1 := rowsG_len hm n (by omega)
    have h2 := pow_le hm h
    omega
section
variable {P : Program} {w : World} {K : PySem.W.Frag} {mg : Str → Option Value} {base : Heap}
end
end K58
set_option Elab.async false
set_option linter.all false
set_option maxRecDepth 100000
set_option maxHeartbeats 2000000
namespace K58
open PySem PySem.Spec PyProof.Rows L2 Ver
structure Bk where
  count : Int
  fin : List Int
  tab : List (List Int)
def BkAt (K : PySem.W.Frag) (H : Hp) (a : Addr) (B : Bk) : Prop := ∃ f t tv, SqT K H a [.int B.count, .ref f, .ref t] ∧ SqT K H f (B.fin.map V.int) ∧ SqT K H t tv ∧ Rows K H tv B.tab
theorem BkAt.grow {K : PySem.W.Frag} {H H' : Hp} {a : Addr} {B : Bk} (e : Same H H') (h : BkAt K H a B) : BkAt K H' a B := by
  obtain ⟨f, t, tv, h1, h2, h3, h4⟩ := h
  exact ⟨f, t, tv, seqT_grow e h1, seqT_grow e h2, seqT_grow e h3, h4.grow e⟩
structure Bk.Ok (B : Bk) (m : Nat) : Prop where
  any1 : 1 ≤ B.tab.length
  row : ∀ r ∈ B.tab, r.length = m ∧ ∀ x ∈ r, -1 ≤ x ∧ x < B.tab.length
def rowAt (tab : List (List Int)) (s : Int) : List Int := (tab[s.toNat]?).getD []
def cellG (tab : List (List Int)) (s t : Int) : Int := ((rowAt tab s)[t.toNat]?).getD 0
def runG (tab : List (List Int)) : Int → List Int → Int
  | s, [] => s
  | s, t :: r => if cellG tab s t < 0 then -1 else runG tab (cellG tab s t) r
theorem Bk.Ok.cell {B : Bk} {m : Nat} (o : B.Ok m) {s t : Int} (h0 : 0 ≤ s) (h1 : s < B.tab.length) (t0 : 0 ≤ t) (t1 : t < m) :
    B.tab[s.toNat]? = some (rowAt B.tab s) ∧ (rowAt B.tab s)[t.toNat]? = some (cellG B.tab s t) ∧ -1 ≤ cellG B.tab s t ∧ cellG B.tab s t < B.tab.length := by
  have lt : s.toNat < B.tab.length := by omega
  have e1 : B.tab[s.toNat]? = some B.tab[s.toNat] := List.getElem?_eq_getElem lt
  have er : rowAt B.tab s = B.tab[s.toNat] := by unfold rowAt; rw [e1]; rfl
  obtain ⟨lr, br⟩ := o.row _ (List.getElem_mem lt)
  rw [← er] at lr br
  have lt2 : t.toNat < (rowAt B.tab s).length := by omega
  have e2 : (rowAt B.tab s)[t.toNat]? = some (rowAt B.tab s)[t.toNat] := List.getElem?_eq_getElem lt2
  have ec : cellG B.tab s t = (rowAt B.tab s)[t.toNat] := by unfold cellG; rw [e2]; rfl
  obtain ⟨b1, b2⟩ := br _ (List.getElem_mem lt2)
  rw [← ec] at b1 b2
  exact ⟨by rw [er]; exact e1, by rw [ec]; exact e2, b1, b2⟩
theorem runG_step {tab : List (List Int)} {r : List Int} {i : Nat} {s t : Int} (e : r[i]? = some t) : runG tab s (r.drop i) = if cellG tab s t < 0 then -1 else runG tab (cellG tab s t) (r.drop (i + 1)) := by
  obtain ⟨lt, e'⟩ := List.getElem?_eq_some_iff.mp e
  rw [List.drop_eq_getElem_cons lt, e']
  rfl
section
variable {P : Program} {w : World} {K : PySem.W.Frag} {mg : Str → Option Value} {base : Heap}
def sp_state_after (K : PySem.W.Frag) : Sp := fun vs H Q _ => ∃ a B m p r, vs = [.ref a, .ref p] ∧ BkAt K H a B ∧ B.Ok m ∧ SqT K H p (r.map V.int) ∧ (∀ t : Int, t ∈ r → 0 ≤ t ∧ t < (m : Int)) ∧ Q (.int (runG B.tab 0 r)) H
theorem ok_state_after (T : Tx K mg) : FnOk P w K mg base CX0 1 T.f_state_after T.d_state_after ["book", "row"] (sp_state_after K) := by
  refine T.F_state_after.ok sc_state_after (fun vs H Q E h => ?_) (fun cdv A outer s H vs Q E hr h => ?_)
  · obtain ⟨a, B, m, p, r, rfl, _⟩ := h; rfl
  · obtain ⟨a, B, m, p, r, rfl, hB, hok, hp, hr2, q⟩ := h
    refine ⟨_, (pss_cons (ps_set (i := 2) sc_state_after.nd rfl (Or.inl rfl) (pe_ix ix_tup (pv 0) pe_int (fun _ _ => rfl)))
    (pss_cons (ps_set (i := 3) sc_state_after.nd rfl (Or.inl rfl) pe_int)
    (pss_cons (ps_for PassesOwn.never rfl (pi_tup (pv 1)) (pg_name (i := 4) sc_state_after.nd rfl (Or.inl rfl))
    (pss_cons (ps_set (i := 3) sc_state_after.nd rfl (Or.inl rfl) (pe_ix ix_tup (pe_ix ix_tup (pv 2) (pv 3) (fun _ _ => rfl)) (pv 4) (fun _ _ => rfl)))
    (pss_one (ps_if (pt_cmpR op_lt (pv 3) pe_int (nomark _)) (pss_one (ps_ret (pe_un un_neg pe_int))) pss_nil))))
    (pss_one (ps_ret (pv 3)))))), ?_⟩
    obtain ⟨f, tb, tv, s1, s2, s3, g1⟩ := hB
    refine ⟨.ref a, rfl, a, _, 2, .ref tb, rfl, rfl, s1, rfl, ?_⟩
    refine ⟨.ref p, rfl, p, rfl, ⟨_, hp⟩, ?_⟩
    refine for_tup (K := K) (a := p) (xs := r.map V.int) (fun i σ H' => H' = H ∧ ∃ s y, σ = [some (.ref a), some (.ref p), some (.ref tb), some (.int s), y] ∧ 0 ≤ s ∧ s < B.tab.length ∧ runG B.tab s (r.drop i) = runG B.tab 0 r) ⟨rfl, 0, none, rfl, by omega, by have := hok.any1; omega, rfl⟩ (fun i σ H' _ h => by rw [h.1]; exact hp) (fun i x σ H' ex h => ?_) (fun σ H' h => ?_)
    · obtain ⟨rfl, s, y, rfl, k0, k1, e⟩ := h
      rw [List.getElem?_map] at ex
      cases et : r[i]? with
      | none => rw [et] at ex; cases ex
      | some t =>
        rw [et] at ex
        have ex' : V.int t = x := Option.some.inj ex
        subst ex'
        obtain ⟨t0, t1⟩ := hr2 t (List.mem_of_getElem? et)
        obtain ⟨e1, e2, c0, c1⟩ := hok.cell k0 k1 t0 t1
        obtain ⟨pn, epn, hpn⟩ := g1.get e1
        refine ⟨.ref tb, rfl, .int s, rfl, tb, tv, s, _, rfl, rfl, s3, at_ref k0 epn, .int t, rfl, pn, _, t, _, rfl, rfl, hpn, at_map t0 e2, ?_⟩
        refine ⟨.int (cellG B.tab s t), rfl, _, _, rfl, rfl, _, rfl, ite2 (fun z => ?_) (fun z => ?_)⟩
        · have z1 := of_decide_eq_true z
          rw [runG_step et, if_pos z1] at e
          refine ⟨1, rfl, ?_⟩
          rw [← e] at q
          exact q
        · have z1 : ¬ cellG B.tab s t < 0 := fun z2 => z (decide_eq_true z2)
          rw [runG_step et, if_neg z1] at e
          exact ⟨rfl, _, some (.int t), rfl, by omega, c1, e⟩
    · obtain ⟨rfl, s, y, rfl, k0, k1, e⟩ := h
      rw [List.length_map, List.drop_length] at e
      have e' : s = runG B.tab 0 r := e
      refine ⟨.int s, rfl, ?_⟩
      rw [e']
      exact q

def finG (B : Bk) (s : Int) : Bool := inV (.int s) (B.fin.map V.int)
theorem flat_ints : ∀ r : List Int, (r.map V.int).all flatV = true
  | [] => rfl
  | _ :: r => flat_ints r
theorem rep_one {α : Type} (n : Nat) (x : α) : (List.replicate n [x]).flatten = List.replicate n x := by
  induction n with
  | zero => rfl
  | succ n ih => rw [List.replicate_succ, List.flatten_cons, ih, List.replicate_succ]; rfl
theorem dp_rep {K : PySem.W.Frag} {H : Hp} (n : Nat) (i : Int) : DpAll K H (List.replicate n (.int i)) (List.replicate n (.int i)) := by
  induction n with
  | zero => exact .nil
  | succ n ih => rw [List.replicate_succ, List.replicate_succ]; exact .cons (.int i) ih
end
end K58
set_option Elab.async false
set_option linter.all false
set_option maxRecDepth 100000
set_option maxHeartbeats 4000000
namespace Ver
open PySem PySem.W
section
variable {β : Type}
theorem le_total (enc : β → PyData) (a b : β) : (dataLe false enc a b || dataLe false enc b a) = true := by
  show (!dataLt (enc b) (enc a) || !dataLt (enc a) (enc b)) = true
  cases h1 : dataLt (enc b) (enc a) with
  | false => rfl
  | true =>
    cases h2 : dataLt (enc a) (enc b) with
    | false => rfl
    | true =>
      have h3 := PyProof.Rows.lex_trans (O := PyProof.Rows.itemOrd) _ _ _ h1 h2
      rw [PyProof.Rows.lex_irrefl] at h3
      cases h3
theorem le_trans (enc : β → PyData) (a b c : β) (h1 : dataLe false enc a b = true) (h2 : dataLe false enc b c = true) : dataLe false enc a c = true := by
  have e1 : dataLt (enc b) (enc a) = false := by
    have : (!dataLt (enc b) (enc a)) = true := h1
    simpa using this
  have e2 : dataLt (enc c) (enc b) = false := by
    have : (!dataLt (enc c) (enc b)) = true := h2
    simpa using this
  show (!dataLt (enc c) (enc a)) = true
  cases h3 : dataLt (enc c) (enc a) with
  | false => rfl
  | true =>
    rcases PyProof.Rows.lex_negTrans (O := PyProof.Rows.itemOrd) (keyToks (enc c)) (keyToks (enc b)) (keyToks (enc a)) h3 with h | h
    · have : dataLt (enc c) (enc b) = true := h
      rw [e2] at this
      cases this
    · have : dataLt (enc b) (enc a) = true := h
      rw [e1] at this
      cases this
theorem le_anti {enc : β → PyData} (inj : ∀ a b, keyToks (enc a) = keyToks (enc b) → a = b) (a b : β) (h1 : dataLe false enc a b = true) (h2 : dataLe false enc b a = true) : a = b := by
  have e1 : dataLt (enc b) (enc a) = false := by
    have : (!dataLt (enc b) (enc a)) = true := h1
    simpa using this
  have e2 : dataLt (enc a) (enc b) = false := by
    have : (!dataLt (enc a) (enc b)) = true := h2
    simpa using this
  exact inj a b (PyProof.Rows.lex_total (O := PyProof.Rows.itemOrd) _ _ e2 e1)
theorem srt_perm {enc : β → PyData} (inj : ∀ a b, keyToks (enc a) = keyToks (enc b) → a = b) {l m : List β} (p : l.Perm m) : l.mergeSort (dataLe false enc) = m.mergeSort (dataLe false enc) :=
  Srt.the_of_perm _ (le_trans enc) (le_total enc) (le_anti inj) ((List.mergeSort_perm l _).trans p) (List.pairwise_mergeSort (le_trans enc) (le_total enc) l)
theorem srt_done {enc : β → PyData} {l : List β} (h : l.Pairwise fun a b => dataLe false enc a b = true) : l.mergeSort (dataLe false enc) = l :=
  (Srt.the _ (le_trans enc) (le_total enc) h fun _ => rfl).symm
theorem srt_pw (enc : β → PyData) (l : List β) : (l.mergeSort (dataLe false enc)).Pairwise fun a b => dataLe false enc a b = true := List.pairwise_mergeSort (le_trans enc) (le_total enc) l
end
end Ver
set_option Elab.async false
set_option linter.all false
set_option maxRecDepth 100000
set_option maxHeartbeats 2000000
namespace K58
open PySem PySem.Spec PyProof.Rows L2 Ver
structure Pl where
  i : Nat
  b : Int
  u : Str
deriving DecidableEq
structure Ar where
  l : Str
  to : Pl
  t : Int
deriving DecidableEq
def oneS (c : Nat) : Str := ⟨#[c]⟩
structure Ta where
  ts : List Str
  count : Nat
  fin : List Int
  tab : List (List Int)
  g : Str
  hl : Bool
def Ta.ahead (T : Ta) (p : Pl) : Prop := T.hl = false ∧ p.i < T.g.length
inductive IsArc (T : Ta) (p : Pl) : Ar → Prop
  | ahead {c : Nat} : T.hl = false → T.g.cps.toList[p.i]? = some c → IsArc T p ⟨oneS c, ⟨p.i + 1, 0, ""⟩, -1⟩
  | inner {c : Nat} : ¬ T.ahead p → (∀ d, T.g.cps.toList[p.i]? = some d → d = c) → IsInner T.ts (p.u ++ oneS c) → IsArc T p ⟨oneS c, ⟨min T.g.length (p.i + 1), p.b, p.u ++ oneS c⟩, -1⟩
  | ends {c t : Nat} : ¬ T.ahead p → (∀ d, T.g.cps.toList[p.i]? = some d → d = c) → T.ts[t]? = some (p.u ++ oneS c) → 0 ≤ cellG T.tab p.b (t : Int) → IsArc T p ⟨oneS c, ⟨min T.g.length (p.i + 1), cellG T.tab p.b (t : Int), ""⟩, (t : Int)⟩
inductive Reach (T : Ta) : Pl → Prop
  | start : Reach T ⟨0, 0, ""⟩
  | step {p : Pl} {a : Ar} : Reach T p → IsArc T p a → Reach T a.to
structure Ta.Ok (T : Ta) : Prop where
  cnt : 1 ≤ T.count
  tl : T.tab.length = T.count
  row : ∀ r ∈ T.tab, r.length = T.ts.length ∧ ∀ x ∈ r, -1 ≤ x ∧ x < T.count
  one : 1 ≤ T.ts.length
  few : T.ts.length ≤ 5
  len : ∀ z ∈ T.ts, 1 ≤ z.length ∧ z.length ≤ 12
  nd : T.ts.Nodup
  gl : T.g.length ≤ 200
theorem glen (z : Str) : z.cps.toList.length = z.length := by rw [Array.length_toList]; rfl
theorem inner_nil {T : Ta} (ok : T.Ok) : IsInner T.ts "" := by
  have l0 : 0 < T.ts.length := ok.one
  obtain ⟨z, h0⟩ : ∃ z, T.ts[0]? = some z := ⟨_, List.getElem?_eq_getElem l0⟩
  refine ⟨z, List.mem_of_getElem? h0, 0, ?_, rfl⟩
  have := ok.len _ (List.mem_of_getElem? h0)
  omega
def Ta.In (T : Ta) (p : Pl) : Prop := p.i ≤ T.g.length ∧ 0 ≤ p.b ∧ p.b < T.count ∧ IsInner T.ts p.u
theorem cell_le {T : Ta} (ok : T.Ok) {b : Int} {t : Nat} (h0 : 0 ≤ b) (h1 : b < T.count) (ht : t < T.ts.length) : -1 ≤ cellG T.tab b (t : Int) ∧ cellG T.tab b (t : Int) < T.count := by
  have lt : b.toNat < T.tab.length := by have := ok.tl; omega
  have e1 : T.tab[b.toNat]? = some T.tab[b.toNat] := List.getElem?_eq_getElem lt
  have er : rowAt T.tab b = T.tab[b.toNat] := by unfold rowAt; rw [e1]; rfl
  obtain ⟨lr, br⟩ := ok.row _ (List.getElem_mem lt)
  rw [← er] at lr br
  have lt2 : ((t : Nat) : Int).toNat < (rowAt T.tab b).length := by rw [Int.toNat_natCast]; omega
  have e2 : (rowAt T.tab b)[((t : Nat) : Int).toNat]? = some (rowAt T.tab b)[((t : Nat) : Int).toNat] := List.getElem?_eq_getElem lt2
  have ec : cellG T.tab b (t : Int) = (rowAt T.tab b)[((t : Nat) : Int).toNat] := by unfold cellG; rw [e2]; rfl
  have := br _ (List.getElem_mem lt2)
  rw [← ec] at this
  exact this
theorem arc_in {T : Ta} (ok : T.Ok) {p : Pl} {a : Ar} (h : T.In p) (r : IsArc T p a) : T.In a.to := by
  obtain ⟨h1, h2, h3, h4⟩ := h
  cases r with
  | ahead e1 e2 =>
    have lt := (List.getElem?_eq_some_iff.mp e2).1
    rw [glen] at lt
    exact ⟨(by show p.i + 1 ≤ _; omega), Int.le_refl 0, (by show (0 : Int) < _; have := ok.cnt; omega), inner_nil ok⟩
  | inner e1 e2 e3 => exact ⟨Nat.min_le_left _ _, h2, h3, e3⟩
  | ends e1 e2 e3 e4 =>
    have lt := (List.getElem?_eq_some_iff.mp e3).1
    exact ⟨Nat.min_le_left _ _, e4, (cell_le ok h2 h3 lt).2, inner_nil ok⟩
theorem reach_in {T : Ta} (ok : T.Ok) {p : Pl} (h : Reach T p) : T.In p := by
  induction h with
  | start => exact ⟨Nat.zero_le _, Int.le_refl 0, (by show (0 : Int) < _; have := ok.cnt; omega), inner_nil ok⟩
  | step _ ha ih => exact arc_in ok ih ha
def uniP (T : Ta) (R : List Str) : List Pl := (List.range (T.g.length + 1)).flatMap fun i => (List.range T.count).flatMap fun (b : Nat) => R.map fun u => ⟨i, ((b : Nat) : Int), u⟩
theorem sum_const {α : Type} (k : Nat) : ∀ l : List α, (l.map fun _ => k).sum = l.length * k
  | [] => by simp
  | _ :: l => by
    rw [List.map_cons, List.sum_cons, sum_const k l, List.length_cons, Nat.succ_mul, Nat.add_comm]
theorem uni_len (T : Ta) (R : List Str) : (uniP T R).length = (T.g.length + 1) * (T.count * R.length) := by
  unfold uniP
  rw [List.length_flatMap]
  have e : ∀ i : Nat, ((List.range T.count).flatMap fun (b : Nat) => R.map fun u => (⟨i, ((b : Nat) : Int), u⟩ : Pl)).length = T.count * R.length := fun i => by
    rw [List.length_flatMap]
    have e2 : (List.map (fun (b : Nat) => (R.map fun u => (⟨i, ((b : Nat) : Int), u⟩ : Pl)).length) (List.range T.count)) = List.map (fun _ => R.length) (List.range T.count) := List.map_congr_left fun b _ => List.length_map ..
    rw [e2, sum_const, List.length_range]
  have e3 : (List.map (fun i => ((List.range T.count).flatMap fun (b : Nat) => R.map fun u => (⟨i, ((b : Nat) : Int), u⟩ : Pl)).length) (List.range (T.g.length + 1))) = List.map (fun _ => T.count * R.length) (List.range (T.g.length + 1)) := List.map_congr_left fun i _ => e i
  rw [e3, sum_const, List.length_range]
theorem uni_mem {T : Ta} {R : List Str} (hR : ∀ z, z ∈ R ↔ IsInner T.ts z) {p : Pl} (h : T.In p) : p ∈ uniP T R := by
  obtain ⟨h1, h2, h3, h4⟩ := h
  refine List.mem_flatMap.mpr ⟨p.i, List.mem_range.mpr (by omega), List.mem_flatMap.mpr ⟨p.b.toNat, List.mem_range.mpr ((Int.toNat_lt h2).mpr h3), List.mem_map.mpr ⟨p.u, (hR _).mpr h4, ?_⟩⟩⟩
  cases p
  simp only [Pl.mk.injEq, true_and, and_true]
  show ((Int.toNat _ : Nat) : Int) = _
  exact Int.toNat_of_nonneg h2
def begL (ts : List Str) : List Str := ts.flatMap fun z => (List.range z.length).map (takeS z)
theorem begL_mem {ts : List Str} {z : Str} : z ∈ begL ts ↔ IsInner ts z := by
  unfold begL IsInner
  simp only [List.mem_flatMap, List.mem_map, List.mem_range]
  constructor
  · rintro ⟨t, ht, k, hk, rfl⟩; exact ⟨t, ht, k, hk, rfl⟩
  · rintro ⟨t, ht, k, hk, rfl⟩; exact ⟨t, ht, k, hk, rfl⟩
theorem begL_len {ts : List Str} (h : ∀ z ∈ ts, z.length ≤ 12) : (begL ts).length ≤ 12 * ts.length := by
  unfold begL
  induction ts with
  | nil => simp
  | cons z ts ih =>
    rw [List.flatMap_cons, List.length_append, List.length_map, List.length_range, List.length_cons]
    have := ih fun y hy => h y (List.mem_cons_of_mem _ hy)
    have := h z List.mem_cons_self
    omega
def Ta.most (T : Ta) : Nat := (T.g.length + 1) * (T.count * (begL T.ts).length)
theorem few_places {T : Ta} {L : List Pl} (nd : L.Nodup) (h : ∀ p ∈ L, T.In p) : L.length ≤ T.most := by
  have := nd.length_le_of_subset (l₂ := uniP T (begL T.ts)) fun p hp => uni_mem (fun z => begL_mem) (h p hp)
  rw [uni_len] at this
  exact this
def plD (p : Pl) : PyData := .tuple [.int p.i, .int p.b, .str p.u]
def plK (p : Pl) : PyData := .tuple [.int p.i, .int p.u.length, .str p.u, .int p.b]
def lePl : Pl → Pl → Bool := PySem.W.dataLe false plK
structure A4 where
  k : Nat
  l : Str
  j : Nat
  t : Int
deriving DecidableEq
def a4D (a : A4) : PyData := .tuple [.int a.k, .str a.l, .int a.j, .int a.t]
def leA4 : A4 → A4 → Bool := PySem.W.dataLe false a4D
theorem plK_inj (p q : Pl) (h : PySem.W.keyToks (plK p) = PySem.W.keyToks (plK q)) : p = q := by
  obtain ⟨i, b, u⟩ := p
  obtain ⟨i', b', u'⟩ := q
  simp only [plK, PySem.W.keyToks, PySem.W.keyToksAll, List.cons_append, List.nil_append, List.cons.injEq, Sum.inl.injEq, Sum.inr.injEq, true_and, and_true] at h
  obtain ⟨h1, h2, h3, h4⟩ := h
  have e1 : i = i' := by omega
  have e3 : u = u' := Ver.str_of_list h3
  subst e1 e3 h4
  rfl
theorem a4_inj (p q : A4) (h : PySem.W.keyToks (a4D p) = PySem.W.keyToks (a4D q)) : p = q := by
  obtain ⟨i, b, u, t⟩ := p
  obtain ⟨i', b', u', t'⟩ := q
  simp only [a4D, PySem.W.keyToks, PySem.W.keyToksAll, List.cons_append, List.nil_append, List.cons.injEq, Sum.inl.injEq, Sum.inr.injEq, true_and, and_true] at h
  obtain ⟨h1, h2, h3, h4⟩ := h
  have e1 : i = i' := by omega
  have e2 : u = u' := by omega
  have e3 : b = b' := Ver.str_of_list h2
  subst e1 e2 e3 h4
  rfl
def finalP (T : Ta) (p : Pl) : Bool := decide (p.i = T.g.length) && decide (p.u = "") && decide (p.b ∈ T.fin)
structure IsPs (T : Ta) (P : List Pl) : Prop where
  nd : P.Nodup
  mem : ∀ p, p ∈ P ↔ Reach T p
  ord : P.mergeSort lePl = P
def finsOf (T : Ta) (P : List Pl) : List Nat := (List.range P.length).filter fun k => match P[k]? with | some p => finalP T p | none => false
def IsA4 (T : Ta) (P : List Pl) (a : A4) : Prop := ∃ p r, P[a.k]? = some p ∧ IsArc T p r ∧ P[a.j]? = some r.to ∧ a.l = r.l ∧ a.t = r.t
structure IsAs (T : Ta) (P : List Pl) (A : List A4) : Prop where
  nd : A.Nodup
  mem : ∀ a, a ∈ A ↔ IsA4 T P a
  ord : A.mergeSort leA4 = A
theorem ps_one {T : Ta} {P P' : List Pl} (h : IsPs T P) (h' : IsPs T P') : P = P' := by
  have p : P.Perm P' := (List.perm_ext_iff_of_nodup h.nd h'.nd).mpr fun a => (h.mem a).trans (h'.mem a).symm
  have e : P.mergeSort lePl = P'.mergeSort lePl := srt_perm plK_inj p
  rw [h.ord, h'.ord] at e
  exact e
theorem as_one {T : Ta} {P : List Pl} {A A' : List A4} (h : IsAs T P A) (h' : IsAs T P A') : A = A' := by
  have p : A.Perm A' := (List.perm_ext_iff_of_nodup h.nd h'.nd).mpr fun a => (h.mem a).trans (h'.mem a).symm
  have e : A.mergeSort leA4 = A'.mergeSort leA4 := srt_perm a4_inj p
  rw [h.ord, h'.ord] at e
  exact e
theorem ps_of {T : Ta} {L : List Pl} (nd : L.Nodup) (mem : ∀ p, p ∈ L ↔ Reach T p) : IsPs T (L.mergeSort lePl) :=
  ⟨(List.mergeSort_perm L _).nodup_iff.mpr nd, fun p => (List.mergeSort_perm L _).mem_iff.trans (mem p), srt_perm plK_inj (List.mergeSort_perm L _)⟩
theorem as_of {T : Ta} {P : List Pl} {L : List A4} (nd : L.Nodup) (mem : ∀ a, a ∈ L ↔ IsA4 T P a) : IsAs T P (L.mergeSort leA4) :=
  ⟨(List.mergeSort_perm L _).nodup_iff.mpr nd, fun p => (List.mergeSort_perm L _).mem_iff.trans (mem p), srt_perm a4_inj (List.mergeSort_perm L _)⟩
def spD (T : Ta) (P : List Pl) (A : List A4) : PyData := .tuple [.tuple (P.map plD), .tuple ((finsOf T P).map fun k => .int (k : Nat)), .tuple (A.map a4D)]
end K58
set_option Elab.async false
set_option linter.all false
set_option maxRecDepth 100000
set_option maxHeartbeats 2000000
namespace K58
open PySem PySem.Spec PyProof.Rows L2 Ver
theorem seqL_grow {K : PySem.W.Frag} {H H' : Hp} {a : Addr} {xs : List V} (s : Same H H') (h : SqL K H a xs) : SqL K H' a xs := h.imp (fun r => r.imp (fun e => s _ _ e) fun ⟨ob, e⟩ => ⟨ob, s _ _ e⟩) id
section
variable {P : Program} {w : World} {K : PySem.W.Frag} {mg : Str → Option Value} {base : Heap}
def sp_joined (K : PySem.W.Frag) : Sp := fun vs H Q _ => ∃ (t r : Addr) (ts : List Str) (is : List Int), vs = [.ref t, .ref r] ∧ SqT K H t (ts.map V.str) ∧ SqT K H r (is.map V.int) ∧ is.length ≤ 60 ∧ (∀ i ∈ is, 0 ≤ i ∧ i < ts.length) ∧ (∀ z ∈ ts, z.length ≤ 100) ∧
  ∀ H', Same H H' → Q (.str (rowS ts is)) H'
theorem ok_joined (T : Tx K mg) : FnOk P w K mg base CX0 1 T.f_joined T.d_joined ["tokens", "row"] (sp_joined K) := by
  refine T.F_joined.ok sc_joined (fun vs H Q E h => ?_) (fun cdv A outer s H vs Q E hr h => ?_)
  · obtain ⟨t, r, ts, is, rfl, _⟩ := h; rfl
  · obtain ⟨t, r, ts, is, rfl, hT, hR, hl, hi, hz, q⟩ := h
    refine ⟨_, (pss_one (ps_ret (pe_join pe_str (pe_lc (own := [("token", 2)]) (g := gName 2) (tt := tYes) (by rfl) sc_joined.nd (pi_tup (pv 1)) (blkOk_by (N := ["tokens", "row", "token"]) (sc := defScope s_joined) (by decide +kernel)) (fun _ _ _ _ _ => (pg_name (i := 2) sc_joined.nd rfl (Or.inl rfl))) (fun _ _ _ _ _ => pts_nil) (fun _ _ _ _ _ => (pe_ix (ix_tupK (K := K) rfl) (pv 0) (pv 2) (fun _ _ => rfl))))))), ?_⟩
    refine ⟨⟨"", rfl⟩, .ref r, rfl, r, rfl, ⟨_, hR⟩, fun D nD => ?_⟩
    have sm : Same H (upd H D (.lst [])) := same_new nD
    refine comp_tup (K := K) (a := r) (xs := is.map V.int) (i := 2) (fun acc H' => Same H H' ∧ acc = ((is.take acc.length).map fun i => V.str (ts.getD i.toNat ""))) ⟨sm, rfl⟩ (fun acc H' h => seqT_grow h.1 hR) (fun acc y H' e h hD => ?_) (fun acc H' e h hD => ?_)
    · obtain ⟨i, ei, rfl⟩ : ∃ i, is[acc.length]? = some i ∧ V.int i = y := by
        rw [List.getElem?_map] at e
        cases ez : is[acc.length]? with
        | none => rw [ez] at e; cases e
        | some z => rw [ez] at e; exact ⟨z, rfl, Option.some.inj e⟩
      have lt : acc.length < is.length := (List.getElem?_eq_some_iff.mp ei).1
      obtain ⟨i0, i1⟩ := hi i (List.mem_of_getElem? ei)
      have el : (ts.map V.str)[i.toNat]? = some (V.str (ts.getD i.toNat "")) := by
        have lt2 : i.toNat < ts.length := by omega
        rw [List.getElem?_map, List.getElem?_eq_getElem lt2, List.getD_eq_getElem?_getD, List.getElem?_eq_getElem lt2]
        rfl
      have ei2 : atI (ts.map V.str) i = some (V.str (ts.getD i.toNat "")) := by
        have e0 : i = ((i.toNat : Nat) : Int) := by omega
        rw [e0]
        exact atI_nat el
      refine ⟨.ref t, rfl, .int i, rfl, t, _, i, _, rfl, rfl, seqT_grow h.1 hT, ei2, ?_⟩
      refine turned hD (small (by omega)) ⟨fun b o eb => ?_, ?_⟩
      · rw [upd_ne (ne_of_none eb nD)]
        exact h.1 b o eb
      · rw [List.length_append, List.length_singleton, List.take_add_one, ei, List.map_append, ← h.2]
        rfl
    · rw [List.length_map] at e
      refine ⟨"", D, is.map fun i => ts.getD i.toNat "", rfl, rfl, .inl (.inl (.inl ?_)), ?_, ?_⟩
      · rw [hD, h.2, e, List.take_length, List.map_map]
        rfl
      · have a := rowL_len ts 100 hz is
        have b : (Str.ofString "").length = 0 := by rfl
        rw [b, Nat.mul_zero]
        omega
      · rw [join_row]
        exact q H' h.1
end
end K58
set_option Elab.async false
set_option linter.all false
set_option maxRecDepth 100000
set_option maxHeartbeats 2000000
namespace K58
open PySem PySem.Spec PyProof.Rows L2 Ver
def placeG (ts : List Str) (tab : List (List Int)) (g : Str) (hl : Bool) (is : List Int) : Option Pl :=
  if runG tab 0 is < 0 then none else if hl = false then some ⟨g.length, runG tab 0 is, ""⟩ else
    if takeS (rowS ts is) (min g.length (rowS ts is).length) = takeS g (min g.length (rowS ts is).length) then some ⟨min g.length (rowS ts is).length, runG tab 0 is, ""⟩ else none
def optD : Option Pl → PyData
  | none => .none
  | some p => plD p
def modeS (hl : Bool) : Str := if hl = true then "healed" else "behind"
theorem mode_eq (hl : Bool) : decide (V.str (modeS hl) = V.str "behind") = !hl := by cases hl <;> decide
theorem slice_takeS (z : Str) (j : Nat) : Txt.slice z none (some (j : Int)) = takeS z j := by
  have e9 := SX.slice_to (a := z.cps.toList) (i := (j : Int)) (by omega)
  rw [SX.S_tl] at e9
  rw [e9]
  rfl
theorem rowS_len (ts : List Str) (n : Nat) (h : ∀ z ∈ ts, z.length ≤ n) (is : List Int) : (rowS ts is).length ≤ is.length * n := by
  have e : (rowS ts is).length = ((is.map fun i => ts.getD i.toNat "").map (·.length)).sum := by
    show (rowL ts is).toArray.size = _
    unfold rowL
    rw [List.size_toArray, List.length_flatMap, List.map_map]
    rfl
  rw [e]
  exact rowL_len ts n h is
theorem if_tt {A B : Prop} (h : A) : if true = true then A else B := by rw [if_pos rfl]; exact h
theorem if_ff {A B : Prop} (h : B) : if false = true then A else B := by rw [if_neg Bool.false_ne_true]; exact h
theorem pl_at {K : PySem.W.Frag} {H : Hp} {x : Addr} {p : Pl} (h : H x = some (.tup [.int (p.i : Nat), .int p.b, .str p.u])) : Dp K H (.ref x) (plD p) := .tup (.inl (.inl h)) (.cons (.int _) (.cons (.int _) (.cons (.str _) .nil)))
section
variable {P : Program} {w : World} {K : PySem.W.Frag} {mg : Str → Option Value} {base : Heap}
def sp_border_behind (K : PySem.W.Frag) : Sp := fun vs H Q _ => ∃ (t a r : Addr) (ts : List Str) (B : Bk) (g : Str) (hl : Bool) (is : List Int), vs = [.ref t, .ref a, .str g, .str (modeS hl), .ref r] ∧ SqT K H t (ts.map V.str) ∧ BkAt K H a B ∧ B.Ok ts.length ∧ SqT K H r (is.map V.int) ∧ is.length ≤ 60 ∧ (∀ i ∈ is, 0 ≤ i ∧ i < ts.length) ∧ (∀ z ∈ ts, z.length ≤ 100) ∧ g.length ≤ 1000 ∧
  ∀ v H', Same H H' → Dp K H' v (optD (placeG ts B.tab g hl is)) → Q v H'
theorem ok_border_behind (T : Tx K mg) : FnOk P w K mg base CX0 2 T.f_border_behind T.d_border_behind ["tokens", "book", "begun", "mode", "row"] (sp_border_behind K) := by
  refine T.F_border_behind.ok sc_border_behind (fun vs H Q E h => ?_) (fun cdv A outer s H vs Q E hr h => ?_)
  · obtain ⟨t, a, r, ts, B, g, hl, is, rfl, _⟩ := h; rfl
  · obtain ⟨t, a, r, ts, B, g, hl, is, rfl, hT, hB, hok, hr2, hl60, hi, hz, hg, q⟩ := h
    refine ⟨_, (pss_cons (ps_set (i := 5) sc_border_behind.nd rfl (Or.inl rfl) (pe_call (ok_state_after T) hr rfl T.g_state_after T.F_state_after.kp T.b_state_after .nil pass0 (pa_cons (pv 1) (pa_cons (pv 4) pa_nil))))
    (pss_cons (ps_if (pt_cmpR op_lt (pv 5) pe_int (nomark _)) (pss_one (ps_ret pe_non)) pss_nil)
    (pss_cons (ps_if (pt_cmpR op_eq (pv 3) pe_str (nomark _)) (pss_one (ps_ret (pe_tup (pa_cons (pe_callB call_len_str (by rfl) T.n_len (by decide +kernel) (pa_cons (pv 2) pa_nil)) (pa_cons (pv 5) (pa_cons pe_str pa_nil)))))) pss_nil)
    (pss_cons (ps_set (i := 6) sc_border_behind.nd rfl (Or.inl rfl) (pe_call (ok_joined T) hr rfl T.g_joined T.F_joined.kp T.b_joined .nil pass0 (pa_cons (pv 0) (pa_cons (pv 4) pa_nil))))
    (pss_cons (ps_set (i := 7) sc_border_behind.nd rfl (Or.inl rfl) (pe_callB (call_min2 rfl) (by rfl) T.n_min (by decide +kernel) (pa_cons (pe_callB call_len_str (by rfl) T.n_len (by decide +kernel) (pa_cons (pv 2) pa_nil)) (pa_cons (pe_callB call_len_str (by rfl) T.n_len (by decide +kernel) (pa_cons (pv 6) pa_nil)) pa_nil))))
    (pss_cons (ps_if (pt_cmpR op_ne (pe_slice C8.sl_txt (pv 6) po_none (po_some (pv 7))) (pe_slice C8.sl_txt (pv 2) po_none (po_some (pv 7))) (nomark _)) (pss_one (ps_ret pe_non)) pss_nil)
    (pss_one (ps_ret (pe_tup (pa_cons (pv 7) (pa_cons (pv 5) (pa_cons pe_str pa_nil)))))))))))), ?_⟩
    have ep : placeG ts B.tab g hl is = if runG B.tab 0 is < 0 then none else if hl = false then some ⟨g.length, runG B.tab 0 is, ""⟩ else
      if takeS (rowS ts is) (min g.length (rowS ts is).length) = takeS g (min g.length (rowS ts is).length) then some ⟨min g.length (rowS ts is).length, runG B.tab 0 is, ""⟩ else none := rfl
    refine ⟨.ref a, rfl, .ref r, rfl, a, B, ts.length, r, is, rfl, hB, hok, hr2, hi, ?_⟩
    generalize runG B.tab 0 is = s at ep
    refine ⟨.int s, rfl, _, _, rfl, rfl, _, rfl, ite2 (fun z => ?_) (fun z => ?_)⟩
    · rw [if_pos (of_decide_eq_true z)] at ep
      refine q _ H (Same.refl H) ?_
      rw [ep]
      exact .non
    rw [if_neg (fun y => z (decide_eq_true y))] at ep
    refine ⟨.str (modeS hl), rfl, rfl, _, rfl, ?_⟩
    rw [mode_eq]
    cases hl with
    | false =>
      rw [if_pos rfl] at ep
      refine if_tt ?_
      refine ⟨.str g, rfl, g, rfl, small' (by omega), .int s, rfl, small' (by simp), fun p np => ?_⟩
      refine q _ _ (same_new np) ?_
      rw [ep]
      exact pl_at upd_same
    | true =>
      rw [if_neg (by decide)] at ep
      refine if_ff ?_
      refine ⟨.ref t, rfl, .ref r, rfl, t, r, ts, is, rfl, hT, hr2, hl60, hi, hz, fun H1 s1 => ?_⟩
      have lt : (rowS ts is).length ≤ 6000 := by
        have a := rowS_len ts 100 hz is
        have b : is.length * 100 ≤ 60 * 100 := Nat.mul_le_mul_right 100 hl60
        omega
      generalize rowS ts is = tx at ep lt
      have em : (if ((tx.length : Nat) : Int) < ((g.length : Nat) : Int) then ((tx.length : Nat) : Int) else ((g.length : Nat) : Int)) = ((min g.length tx.length : Nat) : Int) := by
        split <;> omega
      refine ⟨.str g, rfl, g, rfl, small' (by omega), .str tx, rfl, tx, rfl, small' (by omega), _, _, rfl, ?_⟩
      rw [em]
      generalize min g.length tx.length = n at ep
      refine ⟨.str tx, rfl, .int (n : Nat), rfl, (n : Nat), rfl, tx, rfl, small' (by omega), ?_⟩
      refine ⟨.str g, rfl, .int (n : Nat), rfl, (n : Nat), rfl, g, rfl, small' (by omega), ?_⟩
      rw [slice_takeS, slice_takeS]
      refine ⟨rfl, _, rfl, ?_⟩
      by_cases c : takeS tx n = takeS g n
      · rw [if_pos c] at ep
        rw [c, decide_eq_true rfl]
        refine if_ff ?_
        refine ⟨.int (n : Nat), rfl, .int s, rfl, small' (by simp), fun p np => ?_⟩
        refine q _ _ (s1.trans (same_new np)) ?_
        rw [ep]
        exact pl_at upd_same
      · rw [if_neg c] at ep
        rw [decide_eq_false (fun e => c (V.str.inj e))]
        refine if_tt ?_
        refine q _ H1 s1 ?_
        rw [ep]
        exact .non
def sp_place_behind (K : PySem.W.Frag) (C : Addr) : Sp := fun vs H Q E => ∃ (t a : Addr) (x : V) (ts : List Str) (B : Bk) (g : Str) (hl : Bool) (d : PyData), vs = [.ref t, .ref a, .str g, .str (modeS hl), x] ∧ SqT K H t (ts.map V.str) ∧ BkAt K H a B ∧ B.Ok ts.length ∧ Dp K H x d ∧ lenD d ≤ 1000 ∧ (∀ z ∈ ts, z.length ≤ 100) ∧ g.length ≤ 1000 ∧
  (rowD ts.length d = false → Refuses C E H "row") ∧ (∀ is : List Int, d = .tuple (is.map PyData.int) → rowD ts.length d = true → ∀ v H', Same H H' → Dp K H' v (optD (placeG ts B.tab g hl is)) → Q v H')
theorem ok_place_behind (T : Tx K mg) : FnOk P w K mg base (L2.CX P w) 6 T.f_place_behind T.d_place_behind ["tokens", "book", "begun", "mode", "row"] (sp_place_behind K T.C_NotUsable) := by
  refine T.F_place_behind.okX sc_place_behind (fun vs H Q E h => ?_) (fun cdv A outer s H vs Q E hr h => ?_)
  · obtain ⟨t, a, x, ts, B, g, hl, d, rfl, _⟩ := h; rfl
  · obtain ⟨t, a, x, ts, B, g, hl, d, rfl, hT, hB, hok, hd, hz, hw, hg, q1, q2⟩ := h
    refine ⟨_, (pss_cons (ps_expr (pe_call (ok_ask_row T) hr rfl T.g_ask_row T.F_ask_row.kp T.b_ask_row .nil (passes_call (takes_of rfl rfl rfl rfl) (fun _ _ _ _ h => h)) (pa_cons (pv 0) (pa_cons (pv 4) pa_nil))))
    (pss_one (ps_ret (pe_call (ok_border_behind T) (hr.mono (by decide)) rfl T.g_border_behind T.F_border_behind.kp T.b_border_behind .nil pass0 (pa_cons (pv 0) (pa_cons (pv 1) (pa_cons (pv 2) (pa_cons (pv 3) (pa_cons (pv 4) pa_nil))))))))), ?_⟩
    refine ⟨.ref t, rfl, x, rfl, t, _, x, d, rfl, hT, hd, hz, fun k H' sm => ?_, fun k => ?_⟩
    · rw [List.length_map] at k
      obtain ⟨is, rfl, hr2⟩ := rowD_ints k
      obtain ⟨p, xs, rfl, hp, ha⟩ : ∃ p xs, x = .ref p ∧ SqT K H p xs ∧ DpAll K H xs (is.map PyData.int) := by
        cases hd with
        | tup hs ha => exact ⟨_, _, rfl, hs, ha⟩
      have ex := ints_of_dp ha
      subst ex
      have l60 : is.length ≤ 60 := by
        have k' : ((is.map PyData.int).all (belowD ts.length) && decide ((is.map PyData.int).length ≤ 60)) = true := k
        rw [Bool.and_eq_true, decide_eq_true_eq, List.length_map] at k'
        exact k'.2
      refine ⟨.ref t, rfl, .ref a, rfl, .str g, rfl, .str (modeS hl), rfl, .ref p, rfl, t, a, p, ts, B, g, hl, is, rfl, seqT_grow sm hT, hB.grow sm, hok, seqT_grow sm hp, l60, hr2, hw, hg, fun v H2 s2 hv => ?_⟩
      exact q2 is rfl k v H2 (sm.trans s2) hv
    · rw [List.length_map] at k
      exact fun H' dd sm n => q1 k H' dd sm n
end
end K58
set_option Elab.async false
set_option linter.all false
set_option maxRecDepth 100000
set_option maxHeartbeats 2000000
namespace Ver
open PySem PySem.Spec PyProof.Rows L2
def PutT (H : Hp) (D : Addr) (y z : V) (Nx : Hp → Prop) : Prop :=
  ∃ (kvs : List (List L2.Key × V)) (k : List L2.Key) (b : Addr), y = .ref b ∧ H b = some (.tup (k.map kV)) ∧ H D = some (.dT kvs) ∧ kvs.length < sizeLine ∧ Nx (upd H D (.dT (putK kvs k z)))
section
variable {X : Cx} {pins : List (Addr × Obj)} {σ : L2.St} {H : Hp} {s : Shared}
theorem putT_set {D : Addr} {y z : V} {u r : Value} {Q : Unit → Shared → Prop} {E : Value → Shared → Prop} {Nx : Hp → Prop} (hu : X.A.units < cLine) (I : Inv X pins σ H s) (g : PutT H D y z Nx) (ry : RelV y u) (rz : RelV z r)
    (h : ∀ H' s', Inv X pins σ H' s' → Nx H' → Q () s') : wpAny (model X.prog X.w) X.A (dictSet D u r) Q E s := by
  obtain ⟨kvs, k, b, rfl, hb, hD, hl, nx⟩ := g
  obtain rfl : u = Value.ref b := ry
  obtain ⟨z0, hd, xs, rel, dd⟩ := dt_of I.hok hD
  have lx : kvs.length = xs.length := Paired.length rel
  have lp := length_putK kvs k z
  refine wpAny_dictSet_heap (knd := tupleKind (mixKind X.prog X.w)) (hsz := by omega) hu (key_of I.hok hb) dd fun h' d2 same => h _ _ ?_ nx
  obtain ⟨o, es, ep, ho, hx, hdt, he, _, hn⟩ := d2
  refine d_write I (by rw [hD]; exact True.intro) same ⟨o, ho⟩ ⟨by omega, hd, _, (rel.put k hb rz).keeps fun c ys ec => ?_, o, es, ep, ho, hx, hdt, he, hn⟩
  rw [upd_ne (ne_of ec hD fun q => nomatch q)]
  exact ec
def tDcT (wi : TI) (g : TG) (tk tv : TE) (vs : List Nat) : TE := fun σ H Q => wi σ H fun J H1 => ∀ D, H1 D = none →
  ∃ W : Nat → Nat → Hp → Prop, (∃ m, W 0 m (upd H1 D (.dT []))) ∧ ∀ i m H, W i m H →
    (J.stop i H ∧ Q (.ref D) H) ∨
    (J.go i H ∧ ∃ Nx : Hp → Prop, (∀ H', Nx H' → ∃ m', m' < m ∧ W (i + 1) m' H') ∧
      ∀ x H', J.yld i H x H' → g x (wipe σ vs) H' fun σ2 H2 => wipe σ2 vs = wipe σ vs ∧ tk σ2 H2 fun y H3 => tv σ2 H3 fun z H4 => PutT H4 D y z Nx)
end
section
variable {X : Cx} {kx vx tg iter : Expr} {scope : Scope} {own : List (Str × Nat)} {pos : Pos} {wi : TI} {g : TG} {tk tv : TE}
abbrev blkEnv (X : Cx) (scope : Scope) (cl : List (Str × Addr)) (C : Addr) : Env := compEnvC scope cl C X.env
theorem pe_dcT (hu : X.A.units < cLine) (hc : X.calm = true) (hN : X.N.Nodup) (hi : PI X tg iter wi) (ok : BlkOk X.N X.env.scope scope own)
    (hg : ∀ (s : Shared) (H : Hp) (C : Addr) (cl : List (Str × Addr)) (fp : List Addr), PG (X.blk s H scope (blkEnv X scope cl C) fp) tg g)
    (hk : ∀ (s : Shared) (H : Hp) (C : Addr) (cl : List (Str × Addr)) (fp : List Addr), PE (X.blk s H scope (blkEnv X scope cl C) fp) kx tk)
    (he : ∀ (s : Shared) (H : Hp) (C : Addr) (cl : List (Str × Addr)) (fp : List Addr), PE (X.blk s H scope (blkEnv X scope cl C) fp) vx tv)
    (hs : ∀ x, foldedSetIterable iter X.env x = pure x := by intro _; rfl) :
    PE X (.DictComp kx vx [⟨tg, iter, [], 0⟩] scope pos) (tDcT wi g tk tv (own.map (·.2))) := by
  refine ⟨fun pins s σ H Q I h => ?_⟩
  rw [arm_eval_DictComp]
  have hfree : ∀ y ∈ scope.names, y.2 = .free → ∃ c, X.env.cells.lookup y.1 = some c := fun y hy e =>
    (ok.free y hy e).elim (fun k => I.ok.has _ (.inl k)) fun k => I.ok.has _ (.inr k)
  refine wpAny_comprehension_free (use := none) rfl hs (closure_ok hfree) ok.kind (fun y hy e => by rw [ok.uniq y hy, e]) (thn (hi.run pins s σ H _ I h) fun xv s1 hx => thn hx fun itv s2 got => ?_)
  obtain ⟨it, fp, tn, J, H2, rfl, I2, T, at0, nofp, q⟩ := got
  refine wpAny_newObj_type (newEnv_comp ?_)
  generalize hD : s2.heap.objs.size = D
  have Dn : H2 D = none := I2.hok.fresh (Nat.le_of_eq hD)
  obtain ⟨W, ⟨m0, w0⟩, turn⟩ := q D Dn
  generalize e3 : ({ s2 with heap := s2.heap.push { cls := .type "dict", data := .dict #[] } } : Shared) = s3
  have heap3 : s3.heap = s2.heap.push { cls := .type "dict", data := .dict #[] } := by rw [← e3]
  have I3 : Inv X pins σ (upd H2 D (.dT [])) s3 := by
    subst e3 hD
    exact I2.laid (t' := s2.toks) (fun b o e => Heap.get?_push_of_some _ e) (Nat.le_refl _) (dt_empty s2.heap I2.big)
  have nof3 : ∀ b ∈ fp, FpOk X pins (upd H2 D (.dT [])) b ∧ b < s3.heap.objs.size := fun b hb => by
    obtain ⟨o, e, _⟩ := T.obj _ _ at0 b hb
    have lt := Heap.lt_size e
    have ne : b ≠ D := by rw [← hD]; exact Nat.ne_of_lt lt
    exact ⟨⟨by rw [upd_ne ne]; exact (nofp b hb).1, (nofp b hb).2⟩, by rw [heap3, Heap.size_push]; exact Nat.lt_succ_of_lt lt⟩
  have at3 : tn 0 s3.heap := T.keep _ _ _ at0 fun b _ o e => by rw [heap3]; exact Heap.get?_push_of_some _ e
  have I4 := block_start I3 ok hN nof3
  show codeAny _ _ (.compStart (.DictComp kx vx [⟨tg, iter, [], 0⟩] scope pos) 0 (.ref it) (.ref D) (compEnvC scope (cellsFrom (s3.heap.objs.size + 1) scope.names (cloFrom X.env.cells scope.names [])) s3.heap.objs.size X.env)) (compPost (model X.prog X.w) X.A X.xe none (EP X pins σ Q) (.ref D) s3.heap.objs.size) { s3 with heap := pushCells (s3.heap.push { cls := .type "dict", data := .dict #[] }) scope.names }
  generalize hcl : cellsFrom (s3.heap.objs.size + 1) scope.names (cloFrom X.env.cells scope.names []) = cl at I4 ⊢
  have rg := hg s3 (upd H2 D (.dT [])) s3.heap.objs.size cl fp
  have rk := hk s3 (upd H2 D (.dT [])) s3.heap.objs.size cl fp
  have re := he s3 (upd H2 D (.dT [])) s3.heap.objs.size cl fp
  generalize hC : s3.heap.objs.size = C at I4 rg rk re ⊢
  have nf0 : ∀ b ∈ fp, (upd H2 D (.dT [])) b = none := fun b hb => (nof3 b hb).1.1
  generalize hce : blkEnv X scope cl C = ce at rg rk re
  have ece : compEnvC scope cl C X.env = ce := hce
  rw [ece] at I4 ⊢
  have cL : ce.locals = C := by rw [← hce]; rfl
  generalize hH3 : upd H2 D (.dT []) = H3 at I3 I4 rg rk re w0 nf0 nof3
  generalize hs4 : ({ s3 with heap := pushCells (s3.heap.push { cls := .type "dict", data := .dict #[] }) scope.names } : Shared) = s4 at I4 ⊢
  have at4 : tn 0 s4.heap := T.keep _ _ _ at3 fun b _ o e => by rw [← hs4]; exact pushCells_keeps _ _ _ _ (Heap.get?_push_of_some _ e)
  have fpok : ∀ {σ' : L2.St} {H' : Hp} {s' : Shared}, Inv (X.blk s3 H3 scope ce fp) [] σ' H' s' → (∀ b ∈ fp, H' b = none) → ∀ b ∈ fp, FpOk (X.blk s3 H3 scope ce fp) [] H' b := fun {σ' H' s'} I' hn b hb =>
    ⟨hn b hb, (I'.ok.exf b hb).1, I'.ok.exfs b hb, .inl hb, fun x c e => (I'.ok.exf b hb).2 x c e, fun p hp => absurd (show p ∈ ([] : List (Addr × Obj)) ++ [] from hp) (by simp)⟩
  have main : codeAny (model X.prog X.w) X.A (.compLoop (.DictComp kx vx [⟨tg, iter, [], 0⟩] scope pos) 0 (.ref it) (.ref D) ce) (compPost (model X.prog X.w) X.A X.xe none (EP X pins σ Q) (.ref D) C) s4 := by
    refine compLoop_anyD (fun n s' => ∃ i H', Inv (X.blk s3 H3 scope ce fp) [] (wipe σ (own.map (·.2))) H' s' ∧ tn i s'.heap ∧ (∀ b ∈ fp, H' b = none) ∧ W i n H') ?_ m0 ⟨0, H3, I4, at4, nf0, w0⟩
    rintro n s5 ⟨i, H5, I5, at5, nf5, w5⟩
    rcases turn i n H5 w5 with ⟨stop, fin⟩ | ⟨go, Nx, less, step⟩
    · refine thnF (T.done (X.blk s3 H3 scope ce fp) rfl rfl rfl hc i [] s5 _ H5 (fun _ _ => False) I5 (fpok I5 nf5) at5 stop) fun r s6 got => ?_
      obtain ⟨rfl, I6⟩ := got
      have I7 : Inv X pins σ H5 s6 := I3.call' (ch := fp) I6.os I6.base I6.hok I6.bare fun b hb => ⟨(nof3 b hb).1.2.2.2.1, (nof3 b hb).1.2.1, (nof3 b hb).1.2.2.2.2.1, (nof3 b hb).1.2.2.2.2.2⟩
      have nC : H5 C = none := by rw [← cL]; exact I6.free
      obtain ⟨m, hn, _⟩ := I6.loc
      replace hn : s6.heap.Ns C m := by rw [← cL]; exact hn
      obtain ⟨f0, f1, f2, f3, f4, f5⟩ := I3.fpOk (Nat.le_of_eq hC) nC
      exact ⟨m, hn, fun h'' sb => ⟨.ref D, H5, I7.turned (t' := s6.toks) (fun b o hb e => (sb.2 b hb).trans e) f0 f1 f3 f4 f5, rfl, fin⟩⟩
    · refine thnF (T.item (X.blk s3 H3 scope ce fp) rfl rfl rfl hc i [] s5 _ H5 (fun _ _ => False) I5 (fpok I5 nf5) at5 go) fun r s6 got => ?_
      obtain ⟨u, rfl, h6⟩ := got
      refine thnF h6 fun _ s7 got => ?_
      obtain ⟨x, H7, I7, r7, y7, at7, nf7⟩ := got
      refine thnF (rg.run _ s7 _ H7 x u _ (I7.pinned (fpok I7 nf7) (T.obj _ _ at7)) r7 (step x H7 y7)) fun _ s8 got => ?_
      obtain ⟨σ8, H8, I8, ew, q8⟩ := got
      refine wpAny_tests_nil ?_
      show wpAny (model X.prog X.w) X.A (eval kx ce) _ _ s8
      refine thnF (rk.run _ s8 σ8 H8 _ I8 q8) fun kv s9 got => ?_
      obtain ⟨y, H9, I9, r9, q9⟩ := got
      refine thnF (re.run _ s9 σ8 H9 _ I9 q9) fun vv s10 got => ?_
      obtain ⟨z, H10, I10, r10, put⟩ := got
      refine putT_set (X := X.blk s3 H3 scope ce fp) hu I10 put r9 r10 fun H11 s11 I11 nx => ?_
      obtain ⟨m', lt, w'⟩ := less H11 nx
      have kept : ∀ b ∈ fp, ∀ o, s7.heap.get? b = some o → s11.heap.get? b = some o ∧ H11 b = none := fun b hb o e => by
        have z := I11.pin (b, o) (List.mem_append_right _ (List.mem_append_right _ (mem_pinsAt hb e)))
        exact ⟨z.1, z.2.1⟩
      refine ⟨m', lt, i + 1, H11, (I11.unpinned (pins := [])).weak (by rw [← ew, wipe_length]) (fun j v e => ?_), T.keep _ _ _ at7 fun b hb o e => (kept b hb o e).1, fun b hb => ?_, w'⟩
      · rw [← ew] at e
        exact (wipe_some e).1
      · obtain ⟨o, e, _⟩ := T.obj _ _ at7 b hb
        exact (kept b hb o e).2
  exact codeAny_compStart_dict main (T.self X.A 0 _ _ _ at4 main)
theorem dcT_tup {K : PySem.W.Frag} {a : Addr} {xs : List V} {g : TG} {tk tv : TE} {vs : List Nat} {σ : L2.St} {H1 : Hp} {D : Addr} {Qd : Hp → Prop} (S : Nat → Hp → Prop) (h0 : S 0 (upd H1 D (.dT []))) (hl : ∀ i H, S i H → SqT K H a xs)
    (hs : ∀ i x H, xs[i]? = some x → S i H → g x (wipe σ vs) H fun σ2 H2 => wipe σ2 vs = wipe σ vs ∧ tk σ2 H2 fun y H3 => tv σ2 H3 fun z H4 => PutT H4 D y z (S (i + 1))) (hd : ∀ H, S xs.length H → Qd H) :
    ∃ W : Nat → Nat → Hp → Prop, (∃ m, W 0 m (upd H1 D (.dT []))) ∧ ∀ i m H, W i m H →
      ((Itt K a).stop i H ∧ Qd H) ∨
      ((Itt K a).go i H ∧ ∃ Nx : Hp → Prop, (∀ H', Nx H' → ∃ m', m' < m ∧ W (i + 1) m' H') ∧
        ∀ x H', (Itt K a).yld i H x H' → g x (wipe σ vs) H' fun σ2 H2 => wipe σ2 vs = wipe σ vs ∧ tk σ2 H2 fun y H3 => tv σ2 H3 fun z H4 => PutT H4 D y z Nx) := by
  refine ⟨fun i m H => i + m = xs.length ∧ S i H, ⟨xs.length, Nat.zero_add _, h0⟩, fun i m H ⟨e, p⟩ => ?_⟩
  have st := hl i H p
  cases m with
  | zero =>
    have e' : i = xs.length := e
    subst e'
    exact .inl ⟨⟨xs, st, Nat.le_refl _⟩, hd H p⟩
  | succ m =>
    have lt : i < xs.length := by omega
    refine .inr ⟨⟨xs, xs[i], st, by simp [lt]⟩, S (i + 1), fun H' p' => ⟨m, by omega, by omega, p'⟩, fun x H' y => ?_⟩
    obtain ⟨rfl, y⟩ := y
    exact hs i x _ (y xs st) p
end
end Ver
set_option Elab.async false
set_option linter.all false
set_option maxRecDepth 100000
set_option maxHeartbeats 2000000
namespace Ver
open PySem PySem.Spec PyProof.Rows L2
section
variable {J : It} {n : Nat} {G : Hp → Prop} {Y : Nat → Hp → V → Hp → Prop}
theorem dc_it (w : Walk J n G Y) {g : TG} {tk tv : TE} {vs : List Nat} {σ : L2.St} {H1 : Hp} {D : Addr} {Qd : Hp → Prop} (Pv : Nat → Hp → Prop) (h0 : Pv 0 (upd H1 D (.dK []))) (hG : ∀ i H, i ≤ n → Pv i H → G H)
    (hs : ∀ i x H H', i < n → Pv i H → Y i H x H' → g x (wipe σ vs) H' fun σ2 H2 => wipe σ2 vs = wipe σ vs ∧ tk σ2 H2 fun y H4 => tv σ2 H4 fun z H5 => ∃ kvs k, y = kV k ∧ H5 D = some (.dK kvs) ∧ kvs.length < sizeLine ∧ Pv (i + 1) (upd H5 D (.dK (putK kvs k z))))
    (hg : ∀ x σ H (A B : L2.St → Hp → Prop), (∀ σ' H', A σ' H' → B σ' H') → g x σ H A → g x σ H B) (hd : ∀ H, Pv n H → Qd H) :
    ∃ W : Nat → Nat → Hp → Prop, (∃ m, W 0 m (upd H1 D (.dK []))) ∧ ∀ i m H, W i m H →
      (J.stop i H ∧ Qd H) ∨ (J.go i H ∧ ∃ Nx : Hp → Prop, (∀ H', Nx H' → ∃ m', m' < m ∧ W (i + 1) m' H') ∧ ∀ x H', J.yld i H x H' → g x (wipe σ vs) H' fun σ2 H2 => wipe σ2 vs = wipe σ vs ∧ tYes σ2 H2 fun b H3 =>
        if b = true then tk σ2 H3 fun y H4 => tv σ2 H4 fun z H5 => ∃ kvs k, y = kV k ∧ H5 D = some (.dK kvs) ∧ kvs.length < sizeLine ∧ Nx (upd H5 D (.dK (putK kvs k z))) else Nx H3) := by
  refine ⟨fun i m H => m = n - i ∧ i ≤ n ∧ Pv i H, ⟨n, by simp, Nat.zero_le _, h0⟩, ?_⟩
  rintro i m H ⟨rfl, hi, p⟩
  have q := hG i H hi p
  by_cases hlt : i < n
  · refine .inr ⟨w.goes i H hlt q, Pv (i + 1), fun H' p' => ⟨n - (i + 1), by omega, rfl, hlt, p'⟩, fun x H' y => hg _ _ _ _ _ (fun σ' H2 ⟨e, r⟩ => ⟨e, ?_⟩) (hs i x H H' hlt p (w.yields i H x H' hlt q y))⟩
    unfold tYes
    dsimp only
    rw [if_pos rfl]
    exact r
  · have e : i = n := by omega
    subst e
    exact .inl ⟨w.stops H q, hd H p⟩
theorem dcT_it (w : Walk J n G Y) {g : TG} {tk tv : TE} {vs : List Nat} {σ : L2.St} {H1 : Hp} {D : Addr} {Qd : Hp → Prop} (Pv : Nat → Hp → Prop) (h0 : Pv 0 (upd H1 D (.dT []))) (hG : ∀ i H, i ≤ n → Pv i H → G H)
    (hs : ∀ i x H H', i < n → Pv i H → Y i H x H' → g x (wipe σ vs) H' fun σ2 H2 => wipe σ2 vs = wipe σ vs ∧ tk σ2 H2 fun y H3 => tv σ2 H3 fun z H4 => PutT H4 D y z (Pv (i + 1))) (hd : ∀ H, Pv n H → Qd H) :
    ∃ W : Nat → Nat → Hp → Prop, (∃ m, W 0 m (upd H1 D (.dT []))) ∧ ∀ i m H, W i m H →
      (J.stop i H ∧ Qd H) ∨ (J.go i H ∧ ∃ Nx : Hp → Prop, (∀ H', Nx H' → ∃ m', m' < m ∧ W (i + 1) m' H') ∧ ∀ x H', J.yld i H x H' → g x (wipe σ vs) H' fun σ2 H2 => wipe σ2 vs = wipe σ vs ∧ tk σ2 H2 fun y H3 => tv σ2 H3 fun z H4 => PutT H4 D y z Nx) := by
  refine ⟨fun i m H => m = n - i ∧ i ≤ n ∧ Pv i H, ⟨n, by simp, Nat.zero_le _, h0⟩, ?_⟩
  rintro i m H ⟨rfl, hi, p⟩
  have q := hG i H hi p
  by_cases hlt : i < n
  · exact .inr ⟨w.goes i H hlt q, Pv (i + 1), fun H' p' => ⟨n - (i + 1), by omega, rfl, hlt, p'⟩, fun x H' y => hs i x H H' hlt p (w.yields i H x H' hlt q y)⟩
  · have e : i = n := by omega
    subst e
    exact .inl ⟨w.stops H q, hd H p⟩
end
theorem gName_mono {i : Nat} {x : V} {σ : L2.St} {H : Hp} {A B : L2.St → Hp → Prop} (h : ∀ σ' H', A σ' H' → B σ' H') (a : gName i x σ H A) : gName i x σ H B := h _ _ a
end Ver
namespace Ver
open PySem PySem.Spec PyProof.Rows L2
section
variable {X : Cx}
theorem ps_setDc {i : Nat} {y : Str} {py spos : Pos} {kx vx tg iter : Expr} {ifs : List Expr} {scope : Scope} {own : List (Str × Nat)} {pos : Pos} {wi : TI} {g : TG} {tt : TT} {tk tv : TE} (hc : X.calm = true) (hN : X.N.Nodup)
    (hy : X.N[i]? = some y) (hyl : X.env.scope.names.lookup y = some .local) (hsw : swapsWith (.DictComp kx vx [⟨tg, iter, ifs, 0⟩] scope pos) (some (.Name y py)) spos.line X.env = pure true)
    (hi : PI X tg iter wi) (ok : BlkOk X.N X.env.scope scope own)
    (hg : ∀ (s : Shared) (H : Hp) (C : Addr) (cl : List (Str × Addr)) (fp : List Addr), PG (X.blk s H scope (blkEnv X scope cl C) fp) tg g)
    (ht : ∀ (s : Shared) (H : Hp) (C : Addr) (cl : List (Str × Addr)) (fp : List Addr), PTs (X.blk s H scope (blkEnv X scope cl C) fp) ifs tt)
    (hk : ∀ (s : Shared) (H : Hp) (C : Addr) (cl : List (Str × Addr)) (fp : List Addr), PE (X.blk s H scope (blkEnv X scope cl C) fp) kx tk)
    (he : ∀ (s : Shared) (H : Hp) (C : Addr) (cl : List (Str × Addr)) (fp : List Addr), PE (X.blk s H scope (blkEnv X scope cl C) fp) vx tv)
    (hs : ∀ x, foldedSetIterable iter X.env x = pure x := by intro _; rfl) :
    PS X (.Assign [.Name y py] (.DictComp kx vx [⟨tg, iter, ifs, 0⟩] scope pos) spos) (tAsg (tDc wi g tt tk tv (own.map (·.2))) (gName i)) := by
  refine ⟨fun pins s σ H D I h => ?_⟩
  rw [exec_Assign_Name_used _ _ _ _ hsw]
  refine wpAny_bind (wpAny_standAt (wpAny_bind ?_))
  have h : tDc wi g tt tk tv (own.map (·.2)) σ H (fun x H1 => gName i x σ H1 D.nx) := h
  refine wpAny_bind (thn (dc_core (Qf := fun _ s' => SP X pins D .next s')
    hc hN I hi ok hg ht hk he hs h fun L C s' m H' I' q hn f => ?_)
    fun _ s' hq => wpAny_pure (wpAny_pure hq))
  refine wpAny_assign_Name (store_ok2 (v := V.ref L) I' hN hy
    (.inl hyl) rfl (fun s2 I2 ⟨a, sb, ha⟩ => ?_) (.inr hyl))
  obtain ⟨f0, f1, f2, f3, f4, f5⟩ := f
  have haC : C ≠ a := by
    rcases ha with z | z
    · rw [z]; exact f1
    · exact fun e => f4 y a z e.symm
  exact ⟨m, hn.sameBut sb haC, fun h3 sb3 => ⟨_, H',
    I2.turned (t' := s2.toks) (fun b o hb e => (sb3.2 b hb).trans e) f0 f1 f3 f4 f5, q⟩⟩
theorem sw_trueD {kx vx : Expr} {gs : List Comprehension} {scope : Scope} {pos py : Pos} {y : Str} {l : Nat} {env : Env}
    (hk : env.scope.kind = .function) (hy : env.scope.names.lookup y = some .local) (hl : (py.line == pos.line) = true)
    (ha : (scope.names.any fun (n, k) => n == y && (k == .local || k == .cell)) = false) :
    swapsWith (.DictComp kx vx gs scope pos) (some (.Name y py)) l env = pure true := by
  have ky : env.kindOf y = some .local := hy
  have hb : env.blockKind = .function := by
    unfold Env.blockKind
    rw [hk]
    rfl
  unfold swapsWith
  simp only [hb, ky, ha, Expr.pos, hl]
  rfl
end
end Ver
set_option Elab.async false
set_option linter.all false
set_option maxRecDepth 100000
set_option maxHeartbeats 2000000
namespace K58
open PySem PySem.Spec PyProof.Rows L2 Ver LamX
def Beg (ts : List Str) (z : Str) : Prop := ∃ t ∈ ts, ∃ k, k < t.length ∧ z = takeS t (k + 1)
def isInn (ts : List Str) (z : Str) : Bool := decide (z ∈ begL ts)
def preS (z : Str) : Str := takeS z (z.length - 1)
def lastC (z : Str) : Nat := (z.cps.toList[z.length - 1]?).getD 0
abbrev Ent := Str × Bool × Int
def entOf (ts : List Str) (z : Str) : Ent := (oneS (lastC z), isInn ts z, numAt ts z ts.length)
def entsOf (ts ys : List Str) (u : Str) : List Ent := (ys.filter fun z => decide (preS z = u)).map (entOf ts)
def EntAt (H : Hp) (v : V) (e : Ent) : Prop := ∃ p, v = .ref p ∧ H p = some (.tup [.str e.1, .bl e.2.1, .int e.2.2])
theorem ents_keep {H H' : Hp} (e : ∀ b xs, H b = some (.tup xs) → H' b = some (.tup xs)) : ∀ {vs : List V} {es : List Ent}, Paired (EntAt H) vs es → Paired (EntAt H') vs es
  | _, _, .nil => .nil
  | _, _, .cons ⟨p, h1, h2⟩ t => .cons ⟨p, h1, e _ _ h2⟩ (ents_keep e t)
theorem entsOf_snoc (ts ys : List Str) (z u : Str) : entsOf ts (ys ++ [z]) u = entsOf ts ys u ++ (if preS z = u then [entOf ts z] else []) := by
  unfold entsOf
  rw [List.filter_append, List.map_append]
  congr 1
  by_cases h : preS z = u
  · rw [if_pos h]; simp [h]
  · rw [if_neg h]; simp [h]
theorem takeS_take {z : Str} {i j : Nat} (h : i ≤ j) : takeS (takeS z j) i = takeS z i := by
  unfold takeS
  rw [List.take_take, Nat.min_eq_left h]
theorem beg_len {ts : List Str} {z : Str} (h : Beg ts z) : 1 ≤ z.length := by
  obtain ⟨t, _, k, hk, rfl⟩ := h
  rw [takeS_len (by omega)]
  omega
theorem beg_pre {ts : List Str} {z : Str} (h : Beg ts z) : IsInner ts (preS z) := by
  obtain ⟨t, ht, k, hk, rfl⟩ := h
  refine ⟨t, ht, k, hk, ?_⟩
  unfold preS
  rw [takeS_len (by omega), Nat.add_sub_cancel, takeS_take (by omega)]
def WaysAt (H : Hp) (D : Addr) (ts ys : List Str) : Prop := ∃ kvs, H D = some (.dK kvs) ∧ ∀ u, IsInner ts u → ∃ a vs, valV kvs (.inr u) = some (.ref a) ∧ H a = some (.lst vs) ∧ Paired (EntAt H) vs (entsOf ts ys u)
theorem seqT_ext {K : PySem.W.Frag} {H H' : Hp} {a : Addr} {xs : List V} (e : ExtN H H') (h : SqT K H a xs) : SqT K H' a xs := by
  rcases h with (h | ⟨o, h⟩) | h
  · exact .inl (.inl (e _ _ h fun ps z => by cases z))
  · exact .inl (.inr ⟨o, e _ _ h fun ps z => by cases z⟩)
  · exact .inr h
theorem str_get {ts : List Str} {i : Nat} {x : V} (h : (ts.map V.str)[i]? = some x) : ∃ z, ts[i]? = some z ∧ x = .str z := by
  rw [List.getElem?_map] at h
  cases e : ts[i]? with
  | none => rw [e] at h; cases h
  | some z => rw [e] at h; exact ⟨z, rfl, (Option.some.inj h).symm⟩
theorem take_snoc {α : Type} {l : List α} {i : Nat} {x : α} (h : l[i]? = some x) : l.take (i + 1) = l.take i ++ [x] := by
  rw [List.take_add_one, h]
  rfl
def yesK (l : List Str) : List (L2.Key × V) := l.map fun z => (.inr z, .bl true)
theorem yesK_has (z : Str) : ∀ l : List Str, (valV (yesK l) (.inr z)).isSome = decide (z ∈ l)
  | [] => rfl
  | y :: l => by
    by_cases e : y = z
    · subst e
      have h : valV (yesK (y :: l)) (.inr y) = some (.bl true) := valV_pos rfl
      rw [h, decide_eq_true List.mem_cons_self]
      rfl
    · have h : valV (yesK (y :: l)) (.inr z) = valV (yesK l) (.inr z) := valV_neg (fun h => e (Sum.inr.inj h))
      rw [h, yesK_has z l]
      by_cases m : z ∈ l
      · rw [decide_eq_true m, decide_eq_true (List.mem_cons_of_mem _ m)]
      · rw [decide_eq_false m, decide_eq_false (fun h => (List.mem_cons.mp h).elim (fun q => e q.symm) m)]
theorem none_of_isSome {α : Type} {o : Option α} (h : o.isSome = false) : o = none := by cases o <;> first | rfl | cases h
theorem yesK_put {l : List Str} {z : Str} (h : z ∉ l) : putK (yesK l) (.inr z) (.bl true) = yesK (l ++ [z]) := by
  rw [putK_new _ (none_of_isSome ((yesK_has z l).trans (decide_eq_false h)))]
  unfold yesK
  rw [List.map_append]
  rfl
theorem nodup_take {α : Type} [DecidableEq α] {l : List α} {i : Nat} {x : α} (nd : l.Nodup) (h : l[i]? = some x) : x ∉ l.take i := fun m => by
  obtain ⟨j, hj⟩ := List.getElem?_of_mem m
  have hj2 : j < (l.take i).length := (List.getElem?_eq_some_iff.mp hj).1
  rw [List.length_take] at hj2
  rw [List.getElem?_take_of_lt (by omega)] at hj
  have := (List.getElem?_inj (h₀ := (List.getElem?_eq_some_iff.mp hj).1) nd (i := j) (j := i)).mp (hj.trans h.symm)
  omega
def wayK (al : List (Str × Addr)) : List (L2.Key × V) := al.map fun x => (.inr x.1, .ref x.2)
theorem wayK_none {z : Str} : ∀ {al : List (Str × Addr)}, z ∉ al.map (·.1) → valV (wayK al) (.inr z) = none
  | [], _ => rfl
  | x :: al, h => by
    have h1 : valV (wayK (x :: al)) (.inr z) = valV (wayK al) (.inr z) := valV_neg (fun e => h (by rw [← Sum.inr.inj e]; exact List.mem_cons_self))
    rw [h1]
    exact wayK_none fun m => h (List.mem_cons_of_mem _ m)
theorem wayK_get {z : Str} {a : Addr} : ∀ {al : List (Str × Addr)}, (al.map (·.1)).Nodup → (z, a) ∈ al → valV (wayK al) (.inr z) = some (.ref a)
  | [], _, h => by cases h
  | x :: al, nd, h => by
    obtain ⟨n1, n2⟩ := List.nodup_cons.mp nd
    rcases List.mem_cons.mp h with e | h
    · subst e
      exact valV_pos rfl
    · have ne : ¬ (Sum.inr x.1 : L2.Key) = Sum.inr z := fun e => n1 (by show x.1 ∈ _; rw [Sum.inr.inj e]; exact List.mem_map.mpr ⟨_, h, rfl⟩)
      have h1 : valV (wayK (x :: al)) (.inr z) = valV (wayK al) (.inr z) := valV_neg ne
      rw [h1]
      exact wayK_get n2 h
theorem wayK_put {al : List (Str × Addr)} {z : Str} {a : Addr} (h : z ∉ al.map (·.1)) : putK (wayK al) (.inr z) (.ref a) = wayK (al ++ [(z, a)]) := by
  rw [putK_new _ (wayK_none h)]
  unfold wayK
  rw [List.map_append]
  rfl
theorem slice_preS {z : Str} (h : 1 ≤ z.length) : Txt.slice z none (some (-1)) = preS z := by
  have e := beq_iff_eq.mp (PyProof.Rows.slice_closes_to_neg (x := z) (j := -1) (k := (z.length : Int) - 1) (by omega) (by omega) (by omega))
  rw [e]
  have e1 : ((z.length : Int) - 1 - 0).toNat = z.length - 1 := by omega
  rw [e1]
  rfl
theorem last_at {z : Str} (h : 1 ≤ z.length) : atI z.cps.toList (-1) = some (lastC z) := by
  have lt : z.length - 1 < z.cps.toList.length := by rw [glen]; omega
  have ne : z.cps.toList ≠ [] := fun e => by rw [e] at lt; cases lt
  have e1 : z.cps.toList = z.cps.toList.dropLast ++ [z.cps.toList.getLast ne] := (List.dropLast_concat_getLast ne).symm
  have e2 : lastC z = z.cps.toList.getLast ne := by
    unfold lastC
    rw [← glen, ← List.getLast?_eq_getElem?, List.getLast?_eq_getLast ne]
    rfl
  rw [e2]
  conv => lhs; rw [e1]
  exact atI_last _ _
theorem isSome_put {kvs : List (L2.Key × V)} {z : Str} {v : V} {l : List Str} (h : ∀ y, (valV kvs (.inr y)).isSome = decide (y ∈ l)) (y : Str) : (valV (putK kvs (.inr z) v) (.inr y)).isSome = decide (y ∈ l ++ [z]) := by
  rw [valV_put]
  by_cases e : y = z
  · subst e
    rw [if_pos rfl, decide_eq_true (List.mem_append_right _ List.mem_cons_self)]
    rfl
  · rw [if_neg (fun x => e (Sum.inr.inj x)), h]
    by_cases m : y ∈ l
    · rw [decide_eq_true m, decide_eq_true (List.mem_append_left _ m)]
    · rw [decide_eq_false m, decide_eq_false (fun x => (List.mem_append.mp x).elim m fun x => e (List.mem_singleton.mp x))]
theorem nodup_len {α : Type} [DecidableEq α] : ∀ {l m : List α}, l.Nodup → (∀ x ∈ l, x ∈ m) → l.length ≤ m.length
  | [], _, _, _ => Nat.zero_le _
  | x :: l, m, nd, sub => by
    obtain ⟨n1, n2⟩ := List.nodup_cons.mp nd
    have hx := sub x List.mem_cons_self
    have p := List.perm_cons_erase hx
    have : l.length ≤ (m.erase x).length := nodup_len n2 fun y hy => (List.mem_erase_of_ne (fun e => n1 (by rw [← e]; exact hy))).mpr (sub y (List.mem_cons_of_mem _ hy))
    rw [p.length_eq, List.length_cons, List.length_cons]
    omega
section
variable {P : Program} {w : World} {K : PySem.W.Frag} {mg : Str → Option Value} {base : Heap}
def sp_spelled_on (K : PySem.W.Frag) (TS : List (Addr × Str)) : Sp := fun vs H Q _ => ∃ (t : Addr) (ts : List Str), vs = [.ref t] ∧ SqT K H t (ts.map V.str) ∧ ts.length ≤ 200 ∧ (∀ z ∈ ts, z.length ≤ 12) ∧ Tabs TS H ∧
  ∀ (H2 : Hp) (ys : List Str) (D : Addr), ExtN H H2 → Tabs TS H2 → ys.Nodup → (∀ z, z ∈ ys ↔ Beg ts z) → WaysAt H2 D ts ys → Q (.ref D) H2
theorem ok_spelled_on {cc cP cd cS : Addr} (T : Tx K mg) (TB : Tb T base cc cP cd cS) : FnOk P w K mg base CX0 3 T.f_spelled_on T.d_spelled_on ["tokens"] (sp_spelled_on K (TT cP cS)) := by
  refine T.F_spelled_on.ok sc_spelled_on (fun vs H Q E h => ?_) (fun cdv A outer s H vs Q E hr h => ?_)
  · obtain ⟨t, ts, rfl, _⟩ := h; rfl
  · obtain ⟨t, ts, rfl, hT, hl, hz, hB, q⟩ := h
    refine ⟨_, (pss_cons (ps_setDc (i := 2) (own := [("text", 1)]) (g := gName 1) (tt := tYes) rfl sc_spelled_on.nd rfl rfl (sw_trueD rfl rfl rfl (by decide +kernel)) (pi_tup (pe_call (ok_inner_texts T TB) hr rfl T.g_inner_texts T.F_inner_texts.kp T.b_inner_texts .nil pass0 (pa_cons (pv 0) pa_nil))) (blkOk_by (N := ["tokens", "text", "inner", "numbers", "found", "ways", "token", "k"]) (sc := defScope s_spelled_on) (by decide +kernel)) (fun _ _ _ _ _ => (pg_name (i := 1) sc_spelled_on.nd rfl (Or.inl rfl))) (fun _ _ _ _ _ => pts_nil) (fun _ _ _ _ _ => (pv 1)) (fun _ _ _ _ _ => pe_bl))
    (pss_cons (ps_set (i := 3) sc_spelled_on.nd rfl (Or.inl rfl) (pe_call (ok_token_numbers T) (hr.mono (by decide)) rfl T.g_token_numbers T.F_token_numbers.kp T.b_token_numbers .nil pass0 (pa_cons (pv 0) pa_nil)))
    (pss_cons (ps_setSc2 (i := 4) (own := [("token", 6), ("k", 7)]) (g := gName 6) (g1 := gName 7) (vs1 := [7]) rfl sc_spelled_on.nd rfl rfl (sw_trueS rfl rfl rfl (by decide +kernel)) (pi_tup (pv 0)) (blkOk_by (N := ["tokens", "text", "inner", "numbers", "found", "ways", "token", "k"]) (sc := defScope s_spelled_on) (by decide +kernel)) (by decide) (fun _ _ _ _ _ => (pg_name (i := 6) sc_spelled_on.nd rfl (Or.inl rfl))) (fun _ _ _ _ _ => (pi_range1 rfl T.n_range (pa_cons (pe_callB call_len_str (by rfl) T.n_len (by decide +kernel) (pa_cons (pv 6) pa_nil)) pa_nil))) (fun _ _ _ _ _ => (pg_name (i := 7) sc_spelled_on.nd rfl (Or.inl rfl))) (fun _ _ _ _ _ => (pe_slice C8.sl_txt (pv 6) po_none (po_some (pe_op op_add (pv 7) pe_int)))))
    (pss_cons (ps_lock (ps_setDc (i := 5) (own := [("text", 1)]) (g := gName 1) (tt := tYes) rfl sc_spelled_on.nd rfl rfl (sw_trueD rfl rfl rfl (by decide +kernel)) (pi_keys (pv 2)) (blkOk_by (N := ["tokens", "text", "inner", "numbers", "found", "ways", "token", "k"]) (sc := defScope s_spelled_on) (by decide +kernel)) (fun _ _ _ _ _ => (pg_name (i := 1) sc_spelled_on.nd rfl (Or.inl rfl))) (fun _ _ _ _ _ => pts_nil) (fun _ _ _ _ _ => (pv 1)) (fun _ _ _ _ _ => (pe_lst pa_nil))))
    (pss_cons (ps_for PassesOwn.never rfl (pi_list (pe_callB (cr_sortTx (by rfl)) (by rfl) T.n_sorted (by decide +kernel) (pa_cons (pv 4) pa_nil))) (pg_name (i := 1) sc_spelled_on.nd rfl (Or.inl rfl))
    (pss_one (ps_expr (pe_bm PySem.F.plainAttrs_list PySem.F.slot_list_append PySem.F.type_list_append mt_append (pe_dget (hu_of hr) (pv 5) (pe_slice C8.sl_txt (pv 1) po_none (po_some (pe_un un_neg pe_int))) (fun _ _ => rfl)) (pa_cons (pe_tup (pa_cons (pe_ix ix_str (pv 1) (pe_un un_neg pe_int) (fun _ _ => rfl)) (pa_cons (pe_cmp (pc_din (hu_of hr) (pv 1) (pv 2)) (by rfl)) (pa_cons (pe_dget2 (hu_of hr) (pv 3) (pv 1) (pe_un un_neg pe_int) ⟨rfl, rfl, rfl, rfl⟩) pa_nil)))) pa_nil)))))
    (pss_one (ps_ret (pv 5)))))))), ?_⟩
    refine ⟨.ref t, rfl, t, ts, rfl, hT, hl, hz, hB, fun H1 R p e1 t1 inn hp => ?_⟩
    refine ⟨p, rfl, ⟨_, .inl (.inl hp)⟩, fun D1 nD1 => ?_⟩
    have lR : R.length ≤ 2400 := by
      have h1 : R.length ≤ (begL ts).length := nodup_len inn.nd fun z h => begL_mem.mpr ((inn.mem z).mp h)
      have := begL_len (ts := ts) hz
      omega
    refine dc_it (walk_tup (K := K) (a := p) (xs := R.map V.str)) (fun i H' => Same H1 H' ∧ H' D1 = some (.dK (yesK (R.take i)))) ?_ ?_ ?_ (fun x σ H A B h a => gName_mono h a) ?_
    · exact ⟨same_new nD1, upd_same⟩
    · exact fun i H' _ h => .inl (.inl (h.1 _ _ hp))
    · rintro i x H2 H' lt ⟨s2, hD⟩ ⟨rfl, ex⟩
      obtain ⟨z, ez, rfl⟩ := str_get ex
      rw [List.length_map] at lt
      refine ⟨wipe_one _ _ _, .str z, rfl, _, .inr z, rfl, hD, small (by unfold yesK; rw [List.length_map, List.length_take]; omega), same_upd2 s2 nD1, ?_⟩
      rw [upd_same, take_snoc ez, yesK_put (nodup_take inn.nd ez)]
    rintro H2 ⟨s2, hI⟩
    rw [List.length_map, List.take_length] at hI
    have kI2 : ∀ z, (valV (yesK R) (.inr z)).isSome = isInn ts z := fun z => by
      rw [yesK_has]
      unfold isInn
      by_cases c : z ∈ R
      · rw [decide_eq_true c, decide_eq_true (begL_mem.mpr ((inn.mem z).mp c))]
      · rw [decide_eq_false c, decide_eq_false (fun h => c ((inn.mem z).mpr (begL_mem.mp h)))]
    have hT2 : SqT K H2 t (ts.map V.str) := seqT_grow s2 (seqT_ext e1 hT)
    refine ⟨.ref t, rfl, t, ts, rfl, hT2, by omega, fun N H3 s3 hN => ?_⟩
    have hT3 := seqT_grow s3 hT2
    refine ⟨.ref t, rfl, t, rfl, ⟨_, hT3⟩, fun D nD => ?_⟩
    have sD0 := same_new (o := TxO P w D []) nD
    refine it_tup (K := K) (a := t) (xs := ts.map V.str) (fun i H' => Same H3 H' ∧ ∃ l : List Str, H' D = some (TxO P w D l) ∧ l.Nodup ∧ (∀ z, z ∈ l ↔ Beg (ts.take i) z) ∧ l.length ≤ 12 * i)
      ⟨sD0, [], upd_same, List.nodup_nil, fun z => ⟨fun h => absurd h (by simp), fun ⟨t, ht, _⟩ => absurd ht (by simp)⟩, by simp⟩ (fun i H' h => seqT_grow h.1 hT3) (fun i x H' e h => ?_) (fun H4 h => ?_)
    · obtain ⟨s4, l, hD, nd, mem, len⟩ := h
      obtain ⟨z, ez, rfl⟩ := str_get e
      have lt : i < ts.length := (List.getElem?_eq_some_iff.mp ez).1
      have z12 : z.length ≤ 12 := hz z (List.mem_of_getElem? ez)
      refine ⟨by rfl, .str z, rfl, z, rfl, small' (by omega), z.length, rfl, by omega, by omega, ?_⟩
      refine it_range (n := ((z.length : Nat) : Int).toNat) (fun j H' => Same H3 H' ∧ ∃ l : List Str, H' D = some (TxO P w D l) ∧ l.Nodup ∧ (∀ y, y ∈ l ↔ Beg (ts.take i) y ∨ ∃ k, k < j ∧ y = takeS z (k + 1)) ∧ l.length ≤ 12 * i + j)
        ⟨s4, l, hD, nd, fun y => ⟨fun h => .inl ((mem y).mp h), fun h => h.elim (mem y).mpr fun ⟨k, hk, _⟩ => absurd hk (Nat.not_lt_zero k)⟩, by omega⟩ (fun j H2 ltj h => ?_) (fun H2 h => ?_)
      · obtain ⟨s5, l2, hD2, nd2, mem2, len2⟩ := h
        have es : Txt.slice z none (some ((j : Int) + 1)) = takeS z (j + 1) := slice_takeS z (j + 1)
        have sb : 3000 < scanBound := by decide
        refine ⟨by rfl, .str z, rfl, .int (j : Int), rfl, _, _, rfl, rfl, _, rfl, z, rfl, small' (by omega), takeS z (j + 1), l2, by rw [es], hD2, by omega, ?_⟩
        refine ⟨same_upd2 s5 nD, _, upd_same, ?_, fun y => ?_, ?_⟩
        · split
          · exact nd2
          · rename_i hn
            exact List.nodup_cons.mpr ⟨hn, nd2⟩
        · have step : (∃ k, k < j + 1 ∧ y = takeS z (k + 1)) ↔ ((∃ k, k < j ∧ y = takeS z (k + 1)) ∨ y = takeS z (j + 1)) := by
            constructor
            · rintro ⟨k, hk, e9⟩
              rcases Nat.lt_or_eq_of_le (Nat.le_of_lt_succ hk) with h | h
              · exact .inl ⟨k, h, e9⟩
              · exact .inr (h ▸ e9)
            · rintro (⟨k, hk, e9⟩ | e9)
              · exact ⟨k, Nat.lt_succ_of_lt hk, e9⟩
              · exact ⟨j, Nat.lt_succ_self j, e9⟩
          rw [step]
          split
          · rename_i hm
            rw [mem2 y]
            constructor
            · rintro (h | h)
              · exact .inl h
              · exact .inr (.inl h)
            · rintro (h | h | h)
              · exact .inl h
              · exact .inr h
              · rw [h]
                exact (mem2 _).mp hm
          · rw [List.mem_cons, mem2 y]
            constructor
            · rintro (h | h | h)
              · exact .inr (.inr h)
              · exact .inl h
              · exact .inr (.inl h)
            · rintro (h | h | h)
              · exact .inr (.inl h)
              · exact .inr (.inr h)
              · exact .inl h
        · split
          · omega
          · rw [List.length_cons]; omega
      · obtain ⟨s5, l2, hD2, nd2, mem2, len2⟩ := h
        have ej : ((z.length : Nat) : Int).toNat = z.length := by omega
        rw [ej] at mem2 len2
        refine ⟨s5, l2, hD2, nd2, fun y => (mem2 y).trans ?_, by omega⟩
        rw [take_snoc ez]
        constructor
        · rintro (⟨t, ht, k, hk, e⟩ | ⟨k, hk, e⟩)
          · exact ⟨t, List.mem_append_left _ ht, k, hk, e⟩
          · exact ⟨z, List.mem_append_right _ (List.mem_singleton.mpr rfl), k, hk, e⟩
        · rintro ⟨t9, ht, k, hk, e9⟩
          rcases List.mem_append.mp ht with ht | ht
          · exact .inl ⟨t9, ht, k, hk, e9⟩
          · have e8 : t9 = z := List.mem_singleton.mp ht
            exact .inr ⟨k, e8 ▸ hk, e8 ▸ e9⟩
    obtain ⟨s4, l, hD, nd, mem, len⟩ := h
    rw [List.length_map] at mem len
    rw [List.take_length] at mem
    have s34 := s3.trans s4
    have hI4 := s34 _ _ hI
    have hN4 := s4 _ _ hN
    have s14 := s2.trans s34
    refine ⟨D1, _, hI4, True.intro, fun od => ?_⟩
    have sF : ∀ b, b ≠ D1 → (upd H4 D1 (.frz od (.dK (yesK R)))) b = H4 b := fun b ne => upd_ne ne
    generalize hHF : upd H4 D1 (.frz od (.dK (yesK R))) = HF at sF
    have hF : HF D1 = some (.frz od (.dK (yesK R))) := by rw [← hHF]; exact upd_same
    refine ⟨.ref D1, rfl, D1, od, rfl, .inl ⟨_, hF, fun W nW => ?_⟩⟩
    have nW4 : W ≠ D1 := fun e => by rw [e, hF] at nW; cases nW
    refine dc_it (walk_keys (d := D1) (o := od) (kvs := yesK R)) (fun i H' => Same HF H' ∧ ∃ al : List (Str × Addr), H' W = some (.dK (wayK al)) ∧ al.map (·.1) = R.take i ∧ (al.map (·.2)).Nodup ∧ ∀ x ∈ al, HF x.2 = none ∧ x.2 ≠ W ∧ H' x.2 = some (.lst [])) ?_ ?_ ?_ (fun x σ H A B h a => gName_mono h a) ?_
    · exact ⟨same_new nW, [], upd_same, rfl, List.nodup_nil, fun x hx => by cases hx⟩
    · exact fun i H' _ h => h.1 _ _ hF
    · rintro i x H5 H' lt ⟨s5, al, hW, ek, nda, hal⟩ ⟨rfl, k, v, ekv, rfl⟩
      have lti : i < R.length := by unfold yesK at lt; rw [List.length_map] at lt; exact lt
      have eR : R[i]? = some R[i] := List.getElem?_eq_getElem lti
      generalize R[i] = z at eR
      have ez : k = .inr z := by
        unfold yesK at ekv
        rw [List.getElem?_map, eR] at ekv
        exact (Prod.mk.inj (Option.some.inj ekv)).1.symm
      subst ez
      have nz : z ∉ al.map (·.1) := by rw [ek]; exact nodup_take inn.nd eR
      have lal : al.length ≤ 2400 := by
        have := congrArg List.length ek
        rw [List.length_map, List.length_take] at this
        omega
      refine ⟨wipe_one _ _ _, .str z, rfl, Nat.zero_le _, fun A nA => ?_⟩
      have sA := same_new (o := .lst []) nA
      have AW : A ≠ W := fun e => by rw [e, hW] at nA; cases nA
      refine ⟨_, .inr z, rfl, sA _ _ hW, small (by unfold wayK; rw [List.length_map]; omega), same_upd2 (s5.trans sA) nW, al ++ [(z, A)], ?_, ?_, ?_, ?_⟩
      · rw [upd_same, wayK_put nz]
      · rw [List.map_append, ek, take_snoc eR]
        rfl
      · rw [List.map_append]
        refine List.nodup_append.mpr ⟨nda, List.pairwise_singleton _ _, fun a ha b hb => ?_⟩
        obtain ⟨x, hx, rfl⟩ := List.mem_map.mp ha
        rw [List.mem_singleton.mp hb]
        intro e
        have := (hal x hx).2.2
        rw [e] at this
        rw [this] at nA
        cases nA
      · intro x hx
        rcases List.mem_append.mp hx with hx | hx
        · obtain ⟨h1, h2, h3⟩ := hal x hx
          refine ⟨h1, h2, ?_⟩
          rw [upd_ne h2]
          exact sA _ _ h3
        · rw [List.mem_singleton.mp hx]
          refine ⟨s5.free nA, AW, ?_⟩
          rw [upd_ne AW]
          exact upd_same
    rintro H5 ⟨s5, al, hW, ek, nda, hal⟩
    rw [show (yesK R).length = R.length by unfold yesK; exact List.length_map .., List.take_length] at ek
    refine ⟨s5 _ _ hF, ?_⟩
    have s46 : Same H4 (upd H5 D1 (.dK (yesK R))) := fun b o e => by
      by_cases c : b = D1
      · subst c
        rw [hI4] at e
        rw [upd_same, e]
      · rw [upd_ne c]
        refine s5 _ _ ?_
        rw [sF b c]
        exact e
    have fr4 : ∀ x ∈ al, H4 x.2 = none ∧ x.2 ≠ W ∧ x.2 ≠ D1 := fun x hx => by
      obtain ⟨h1, h2, h3⟩ := hal x hx
      have ne : x.2 ≠ D1 := fun e => by rw [e, hF] at h1; cases h1
      exact ⟨by rw [← sF _ ne]; exact h1, h2, ne⟩
    have hW6 : (upd H5 D1 (.dK (yesK R))) W = some (.dK (wayK al)) := by rw [upd_ne nW4]; exact hW
    have nW4H : H4 W = none := by rw [← sF _ nW4]; exact nW
    have hal6 : ∀ x ∈ al, (upd H5 D1 (.dK (yesK R))) x.2 = some (.lst []) := fun x hx => by rw [upd_ne (fr4 x hx).2.2]; exact (hal x hx).2.2
    generalize upd H5 D1 (.dK (yesK R)) = H6 at s46 hW6 hal6 ⊢
    have nkR : (al.map (·.1)).Nodup := by rw [ek]; exact inn.nd
    refine ⟨.ref D, rfl, D, l, rfl, s46 _ _ hD, fun ys L pm pw nL => ?_⟩
    have sL := same_new (o := .lst (ys.map V.str)) nL
    have hL : (upd H6 L (.lst (ys.map V.str))) L = some (.lst (ys.map V.str)) := upd_same
    have WL : W ≠ L := fun e => by rw [e, nL] at hW6; cases hW6
    have aL : ∀ x ∈ al, x.2 ≠ L := fun x hx e => by have := hal6 x hx; rw [e, nL] at this; cases this
    have hW7 := sL _ _ hW6
    have hal7 : ∀ x ∈ al, (upd H6 L (.lst (ys.map V.str))) x.2 = some (.lst []) := fun x hx => sL _ _ (hal6 x hx)
    have s47 := s46.trans sL
    have nL4 : H4 L = none := s46.free nL
    generalize upd H6 L (.lst (ys.map V.str)) = H7 at sL hL hW7 hal7 s47 ⊢
    have memY : ∀ z, z ∈ ys ↔ Beg ts z := fun z => pm.mem_iff.trans (mem z)
    have lY : ys.length ≤ 2400 := by rw [pm.length_eq]; omega
    refine ⟨L, rfl, ⟨_, .inl (.inl hL)⟩, ?_⟩
    refine for_list (K := K) (a := L) (xs := ys.map V.str) (fun i σ H' => ∃ y1, σ = [some (.ref t), y1, some (.ref D1), some (.ref N), some (.ref D), some (.ref W), none, none] ∧ Same H4 H' ∧ H' W = some (.dK (wayK al)) ∧ H' L = some (.lst (ys.map V.str)) ∧ ∀ x ∈ al, ∃ vs, H' x.2 = some (.lst vs) ∧ Paired (EntAt H') vs (entsOf ts (ys.take i) x.1))
      ⟨none, rfl, s47, hW7, hL, fun x hx => ⟨[], hal7 x hx, .nil⟩⟩ (fun i σ H' _ h => ?_) (fun i x σ H' ex h => ?_) (fun σ H' h => ?_)
    · obtain ⟨_, _, _, _, hL', _⟩ := h
      exact .inl (.inl hL')
    · obtain ⟨y1, rfl, s8, hW8, hL8, hal8⟩ := h
      obtain ⟨z, ez, rfl⟩ := str_get ex
      have hz2 : Beg ts z := (memY z).mp (List.mem_of_getElem? ez)
      have z1 := beg_len hz2
      have z12 : z.length ≤ 100 := by
        obtain ⟨t9, ht, k, hk, rfl⟩ := hz2
        have := hz t9 ht
        rw [takeS_len (by omega)]
        omega
      have inP : preS z ∈ al.map (·.1) := by rw [ek]; exact (inn.mem _).mpr (beg_pre hz2)
      obtain ⟨⟨u, A⟩, hA, eu⟩ := List.mem_map.mp inP
      have eu : u = preS z := eu
      subst eu
      obtain ⟨vs, hvs, hes⟩ := hal8 _ hA
      have gW := DGet.k (k := Sum.inr (preS z)) hW8
      rw [wayK_get nkR hA] at gW
      have lvs : vs.length ≤ 2400 := by
        have h1 := Paired.length hes
        unfold entsOf at h1
        rw [List.length_map] at h1
        have h2 := List.length_filter_le (fun z' => decide (preS z' = preS z)) (ys.take i)
        rw [List.length_take] at h2
        refine Nat.le_trans (Nat.le_of_eq h1) (Nat.le_trans h2 ?_)
        omega
      have gI := DGet.k (k := Sum.inr z) (s8 _ _ hI4)
      have gN := DGet.k (k := Sum.inr z) (s8 _ _ hN4)
      refine ⟨.ref W, rfl, .str z, rfl, 1, rfl, _, rfl, z, rfl, small' (by omega), W, .ref A, rfl, by rw [slice_preS z1]; exact gW, .inl ⟨rfl, _, .inl (.inl hvs)⟩, ?_⟩
      refine ⟨.str z, rfl, 1, rfl, z, -1, lastC z, rfl, rfl, small' (by omega), last_at z1, ?_⟩
      refine ⟨.str z, rfl, .ref D1, rfl, D1, _, rfl, gI, ?_⟩
      refine ⟨.ref N, rfl, N, rfl, .inl ⟨_, .inl (s8 _ _ hN4)⟩, .str z, rfl, 1, rfl, _, gN, small' (by simp), fun p9 np => ?_⟩
      rw [tabN_at, kI2]
      have sp := same_new (o := .tup [V.str ⟨#[lastC z]⟩, V.bl (isInn ts z), V.int (numAt ts z ts.length)]) np
      have hp9 : (upd H' p9 (.tup [V.str ⟨#[lastC z]⟩, V.bl (isInn ts z), V.int (numAt ts z ts.length)])) p9 = some (.tup [V.str ⟨#[lastC z]⟩, V.bl (isInn ts z), V.int (numAt ts z ts.length)]) := upd_same
      generalize upd H' p9 (.tup [V.str ⟨#[lastC z]⟩, V.bl (isInn ts z), V.int (numAt ts z ts.length)]) = H9 at sp hp9 ⊢
      have hvs9 : H9 A = some (.lst vs) := sp _ _ hvs
      refine ⟨A, vs, .ref p9, rfl, rfl, hvs9, small (by omega), ?_⟩
      have frA := fr4 _ hA
      have kt : ∀ b xs, H9 b = some (.tup xs) → (upd H9 A (.lst (vs ++ [.ref p9]))) b = some (.tup xs) := fun b xs e => tup_upd hvs9 e
      refine ⟨some (.str z), rfl, same_upd2 (s8.trans sp) frA.1, ?_, ?_, fun x hx => ?_⟩
      · rw [upd_ne (Ne.symm frA.2.1)]
        exact sp _ _ hW8
      · rw [upd_ne (Ne.symm (aL _ hA))]
        exact sp _ _ hL8
      · obtain ⟨vx, h1, h2⟩ := hal8 x hx
        rw [take_snoc ez, entsOf_snoc]
        by_cases c : x.2 = A
        · have ex1 : x.1 = preS z := by
            obtain ⟨j, hj⟩ := List.getElem?_of_mem hx
            obtain ⟨j', hj'⟩ := List.getElem?_of_mem hA
            have e1 : (al.map (·.2))[j]? = some A := by rw [List.getElem?_map, hj]; exact congrArg some c
            have e2 : (al.map (·.2))[j']? = some A := by rw [List.getElem?_map, hj']; rfl
            have ejj := (List.getElem?_inj (h₀ := (List.getElem?_eq_some_iff.mp e1).1) nda (i := j) (j := j')).mp (e1.trans e2.symm)
            subst ejj
            rw [hj'] at hj
            rw [← Option.some.inj hj]
          rw [c] at h1
          have evx : vx = vs := by rw [hvs] at h1; injection h1 with h1; injection h1 with h1; exact h1.symm
          subst evx
          rw [c, ex1, if_pos rfl]
          rw [ex1] at h2
          refine ⟨vx ++ [.ref p9], upd_same, ?_⟩
          exact Paired.snoc (ents_keep kt (ents_keep (fun b xs e => sp _ _ e) h2)) ⟨p9, rfl, kt _ _ hp9⟩
        · have nx : ¬ preS z = x.1 := fun e => c (by
            obtain ⟨j, hj⟩ := List.getElem?_of_mem hx
            obtain ⟨j', hj'⟩ := List.getElem?_of_mem hA
            have e1 : (al.map (·.1))[j]? = some (preS z) := by rw [List.getElem?_map, hj]; exact congrArg some e.symm
            have e2 : (al.map (·.1))[j']? = some (preS z) := by rw [List.getElem?_map, hj']; rfl
            have ejj := (List.getElem?_inj (h₀ := (List.getElem?_eq_some_iff.mp e1).1) nkR (i := j) (j := j')).mp (e1.trans e2.symm)
            subst ejj
            rw [hj'] at hj
            rw [← Option.some.inj hj])
          rw [if_neg nx, List.append_nil]
          refine ⟨vx, ?_, ents_keep kt (ents_keep (fun b xs e => sp _ _ e) h2)⟩
          rw [upd_ne c]
          exact sp _ _ h1
    · obtain ⟨y1, rfl, s8, hW8, hL8, hal8⟩ := h
      rw [List.length_map, List.take_length] at hal8
      refine ⟨.ref W, rfl, ?_⟩
      have s18 := s14.trans s8
      refine q H' ys W (e1.trans (ExtN.of s18)) (t1.ext s18) (pm.nodup_iff.mpr nd) memY ⟨_, hW8, fun u hu => ?_⟩
      have inP : u ∈ al.map (·.1) := by rw [ek]; exact (inn.mem _).mpr hu
      obtain ⟨⟨u', A⟩, hA, eu⟩ := List.mem_map.mp inP
      have eu : u' = u := eu
      subst eu
      obtain ⟨vs, h1, h2⟩ := hal8 _ hA
      exact ⟨A, vs, wayK_get nkR hA, h1, h2⟩
end
end K58
set_option Elab.async false
set_option linter.all false
set_option maxRecDepth 100000
set_option maxHeartbeats 2000000
namespace K58
open PySem PySem.Spec PyProof.Rows L2 Ver LamX
def cellT (T : Ta) (b t : Int) : Int := cellG T.tab b t
def afterG (T : Ta) (p : Pl) : Nat := min T.g.length (p.i + 1)
def arcsE (T : Ta) (p : Pl) (e : Ent) : List Ar :=
  if p.i < T.g.length ∧ e.1 ≠ oneS ((T.g.cps.toList[p.i]?).getD 0) then [] else
    (if e.2.1 = true then [⟨e.1, ⟨afterG T p, p.b, p.u ++ e.1⟩, -1⟩] else []) ++ (if 0 ≤ e.2.2 ∧ 0 ≤ cellG T.tab p.b e.2.2 then [⟨e.1, ⟨afterG T p, cellG T.tab p.b e.2.2, ""⟩, e.2.2⟩] else [])
def arcsB (T : Ta) (ys : List Str) (p : Pl) : List Ar := (entsOf T.ts ys p.u).flatMap (arcsE T p)
theorem oneS_inj {c d : Nat} (h : oneS c = oneS d) : c = d := by
  have h1 : (#[c] : Array Nat) = #[d] := Str.mk.inj h
  have h2 : [c] = [d] := congrArg Array.toList h1
  exact (List.cons.inj h2).1
theorem cps_app (u v : Str) : (u ++ v).cps.toList = u.cps.toList ++ v.cps.toList := Array.toList_append
theorem pre_last {z : Str} (h : 1 ≤ z.length) : preS z ++ oneS (lastC z) = z := by
  refine Ver.str_of_list ?_
  rw [cps_app]
  have ne : z.cps.toList ≠ [] := fun e => by
    have := glen z
    rw [e] at this
    simp at this
    omega
  have e2 : lastC z = z.cps.toList.getLast ne := by
    unfold lastC
    rw [← glen, ← List.getLast?_eq_getElem?, List.getLast?_eq_getLast ne]
    rfl
  show z.cps.toList.take (z.length - 1) ++ [lastC z] = _
  rw [e2, ← glen, ← List.dropLast_eq_take]
  exact List.dropLast_concat_getLast ne
theorem len_app (u : Str) (c : Nat) : (u ++ oneS c).length = u.length + 1 := by
  rw [Str.length_append]
  rfl
theorem pre_app (u : Str) (c : Nat) : preS (u ++ oneS c) = u := by
  refine Ver.str_of_list ?_
  show (u ++ oneS c).cps.toList.take ((u ++ oneS c).length - 1) = _
  rw [len_app, cps_app, Nat.add_sub_cancel, ← glen, List.take_left]
theorem last_app (u : Str) (c : Nat) : lastC (u ++ oneS c) = c := by
  unfold lastC
  rw [len_app, cps_app, Nat.add_sub_cancel, ← glen, List.getElem?_append_right (Nat.le_refl _), Nat.sub_self]
  rfl
theorem beg_of_inner {ts : List Str} {u : Str} {c : Nat} (h : IsInner ts (u ++ oneS c)) : Beg ts (u ++ oneS c) := by
  obtain ⟨t, ht, k, hk, e⟩ := h
  have e1 := congrArg Str.length e
  rw [len_app, takeS_len (by omega)] at e1
  refine ⟨t, ht, u.length, by omega, ?_⟩
  rw [e, ← e1]
theorem takeS_all (z : Str) : takeS z z.length = z := by
  refine Ver.str_of_list ?_
  show z.cps.toList.take z.length = _
  rw [← glen, List.take_length]
theorem beg_of_tok {ts : List Str} {u : Str} {c : Nat} (h : u ++ oneS c ∈ ts) : Beg ts (u ++ oneS c) := by
  refine ⟨_, h, u.length, by rw [len_app]; omega, ?_⟩
  rw [← len_app u c, takeS_all]
theorem numAt_get {ts : List Str} (z : Str) : ∀ n, n ≤ ts.length → 0 ≤ numAt ts z n → ∃ t : Nat, numAt ts z n = (t : Int) ∧ ts[t]? = some z
  | 0, _, h => by cases h
  | n + 1, hn, h => by
    have e : numAt ts z (n + 1) = if ts[n]? = some z then (n : Int) else numAt ts z n := rfl
    rw [e] at h ⊢
    by_cases c : ts[n]? = some z
    · rw [if_pos c]
      exact ⟨n, rfl, c⟩
    · rw [if_neg c] at h ⊢
      exact numAt_get z n (by omega) h
theorem numAt_of {ts : List Str} (nd : ts.Nodup) {t : Nat} {z : Str} (h : ts[t]? = some z) : numAt ts z ts.length = (t : Int) := by
  have lt := (List.getElem?_eq_some_iff.mp h).1
  have key : ∀ n, t < n → n ≤ ts.length → numAt ts z n = (t : Int) := by
    intro n
    induction n with
    | zero => intro h0; omega
    | succ n ih =>
      intro h1 h2
      have e : numAt ts z (n + 1) = if ts[n]? = some z then (n : Int) else numAt ts z n := rfl
      rw [e]
      by_cases c : ts[n]? = some z
      · rw [if_pos c]
        have := (List.getElem?_inj (h₀ := lt) nd (i := t) (j := n)).mp (h.trans c.symm)
        omega
      · rw [if_neg c]
        refine ih ?_ (by omega)
        rcases Nat.lt_or_eq_of_le (Nat.le_of_lt_succ h1) with q | q
        · exact q
        · rw [q] at h
          exact absurd h c
  exact key _ lt (Nat.le_refl _)
theorem arcsB_mem {T : Ta} (ok : T.Ok) {ys : List Str} (hy : ∀ z, z ∈ ys ↔ Beg T.ts z) {p : Pl} (na : ¬ T.ahead p) (a : Ar) : a ∈ arcsB T ys p ↔ IsArc T p a := by
  unfold arcsB entsOf
  rw [List.mem_flatMap]
  constructor
  · rintro ⟨e, he, ha⟩
    obtain ⟨z, hz, rfl⟩ := List.mem_map.mp he
    obtain ⟨hz1, hz2⟩ := List.mem_filter.mp hz
    have hb := (hy z).mp hz1
    have ep : preS z = p.u := of_decide_eq_true hz2
    have ez : p.u ++ oneS (lastC z) = z := by rw [← ep]; exact pre_last (beg_len hb)
    unfold arcsE entOf at ha
    dsimp only at ha
    by_cases c : p.i < T.g.length ∧ oneS (lastC z) ≠ oneS ((T.g.cps.toList[p.i]?).getD 0)
    · rw [if_pos c] at ha; cases ha
    rw [if_neg c] at ha
    have hl : ∀ d, T.g.cps.toList[p.i]? = some d → d = lastC z := fun d hd => by
      have lt := (List.getElem?_eq_some_iff.mp hd).1
      rw [glen] at lt
      have : oneS (lastC z) = oneS ((T.g.cps.toList[p.i]?).getD 0) := Classical.byContradiction fun q => c ⟨lt, q⟩
      rw [hd] at this
      exact (oneS_inj this).symm
    rcases List.mem_append.mp ha with ha | ha
    · by_cases q : isInn T.ts z = true
      · rw [if_pos q] at ha
        rw [List.mem_singleton.mp ha]
        refine .inner na hl ?_
        rw [ez]
        exact begL_mem.mp (of_decide_eq_true q)
      · rw [if_neg q] at ha; cases ha
    · by_cases q : 0 ≤ numAt T.ts z T.ts.length ∧ 0 ≤ cellG T.tab p.b (numAt T.ts z T.ts.length)
      · rw [if_pos q] at ha
        obtain ⟨t, et, ht⟩ := numAt_get z _ (Nat.le_refl _) q.1
        rw [List.mem_singleton.mp ha, et]
        refine .ends na hl ?_ ?_
        · rw [ez]; exact ht
        · rw [← et]; exact q.2
      · rw [if_neg q] at ha; cases ha
  · intro h
    have ne : ∀ c : Nat, (∀ d, T.g.cps.toList[p.i]? = some d → d = c) → ¬ (p.i < T.g.length ∧ oneS c ≠ oneS ((T.g.cps.toList[p.i]?).getD 0)) := fun c hl ⟨lt, q⟩ => by
      have e : T.g.cps.toList[p.i]? = some (T.g.cps.toList[p.i]'(by rw [glen]; exact lt)) := List.getElem?_eq_getElem _
      have := hl _ e
      rw [e] at q
      exact q (by rw [← this]; rfl)
    cases h with
    | ahead e1 e2 =>
      have lt := (List.getElem?_eq_some_iff.mp e2).1
      rw [glen] at lt
      exact absurd ⟨e1, lt⟩ na
    | @inner c e1 e2 e3 =>
      refine ⟨entOf T.ts (p.u ++ oneS c), List.mem_map.mpr ⟨_, List.mem_filter.mpr ⟨(hy _).mpr (beg_of_inner e3), decide_eq_true (pre_app _ _)⟩, rfl⟩, ?_⟩
      unfold arcsE entOf
      dsimp only
      have yi : isInn T.ts (p.u ++ oneS c) = true := decide_eq_true (begL_mem.mpr e3)
      rw [last_app, if_neg (ne c e2), if_pos yi]
      exact List.mem_append_left _ List.mem_cons_self
    | @ends c t e1 e2 e3 e4 =>
      refine ⟨entOf T.ts (p.u ++ oneS c), List.mem_map.mpr ⟨_, List.mem_filter.mpr ⟨(hy _).mpr (beg_of_tok (List.mem_of_getElem? e3)), decide_eq_true (pre_app _ _)⟩, rfl⟩, ?_⟩
      unfold arcsE entOf
      dsimp only
      have ya : 0 ≤ ((t : Nat) : Int) ∧ 0 ≤ cellG T.tab p.b (t : Int) := ⟨by omega, e4⟩
      rw [last_app, if_neg (ne c e2), numAt_of ok.nd e3, if_pos ya]
      exact List.mem_append_right _ List.mem_cons_self
theorem arcsE_l {T : Ta} {p : Pl} {e : Ent} {a : Ar} (h : a ∈ arcsE T p e) : a.l = e.1 := by
  unfold arcsE at h
  split at h
  · cases h
  · rcases List.mem_append.mp h with h | h
    · split at h
      · rw [List.mem_singleton.mp h]
      · cases h
    · split at h
      · rw [List.mem_singleton.mp h]
      · cases h
theorem arcsE_nd (T : Ta) (p : Pl) (e : Ent) : (arcsE T p e).Nodup := by
  unfold arcsE
  split
  · exact List.nodup_nil
  · split
    · split
      · rename_i q
        refine List.nodup_cons.mpr ⟨fun h => ?_, List.pairwise_singleton _ _⟩
        have := congrArg Ar.t (List.mem_singleton.mp h)
        have : (-1 : Int) = e.2.2 := this
        omega
      · exact List.pairwise_singleton _ _
    · split
      · exact List.pairwise_singleton _ _
      · exact List.nodup_nil
theorem arcsE_len (T : Ta) (p : Pl) (e : Ent) : (arcsE T p e).length ≤ 2 := by
  unfold arcsE
  split
  · exact Nat.zero_le _
  · split <;> split <;> simp
theorem nodup_flat {α β : Type} {f : α → List β} : ∀ {l : List α}, (∀ x ∈ l, (f x).Nodup) → (l.Pairwise fun x y => ∀ a ∈ f x, a ∉ f y) → (l.flatMap f).Nodup
  | [], _, _ => List.nodup_nil
  | x :: l, h1, h2 => by
    obtain ⟨k1, k2⟩ := List.pairwise_cons.mp h2
    rw [List.flatMap_cons]
    refine List.nodup_append.mpr ⟨h1 x List.mem_cons_self, nodup_flat (fun y hy => h1 y (List.mem_cons_of_mem _ hy)) k2, fun a ha b hb e => ?_⟩
    obtain ⟨y, hy, hb⟩ := List.mem_flatMap.mp hb
    exact k1 y hy a ha (e ▸ hb)
theorem flat_len {α β : Type} {f : α → List β} {k : Nat} (h : ∀ x, (f x).length ≤ k) : ∀ l : List α, (l.flatMap f).length ≤ k * l.length
  | [] => Nat.zero_le _
  | x :: l => by
    have h1 := flat_len h l
    have h2 := h x
    rw [List.flatMap_cons, List.length_append, List.length_cons, Nat.mul_succ]
    omega
theorem arcsB_nd {T : Ta} {ys : List Str} (nd : ys.Nodup) (hy : ∀ z ∈ ys, 1 ≤ z.length) (p : Pl) : (arcsB T ys p).Nodup := by
  unfold arcsB entsOf
  refine nodup_flat (fun e _ => arcsE_nd T p e) ?_
  rw [List.pairwise_map]
  have nf : (ys.filter fun z => decide (preS z = p.u)).Nodup := nd.filter _
  refine List.Pairwise.imp_of_mem (fun {x y} hx hy' ne => ?_) nf
  intro a ha hb
  have e1 := arcsE_l ha
  have e2 := arcsE_l hb
  obtain ⟨x1, x2⟩ := List.mem_filter.mp hx
  obtain ⟨y1, y2⟩ := List.mem_filter.mp hy'
  refine ne ?_
  rw [← pre_last (hy x x1), ← pre_last (hy y y1), of_decide_eq_true x2, of_decide_eq_true y2]
  have : oneS (lastC x) = oneS (lastC y) := e1.symm.trans e2
  rw [this]
def ArcAt (H : Hp) (v : V) (a : Ar) : Prop := ∃ q r, v = .ref q ∧ H q = some (.tup [.str a.l, .ref r, .int a.t]) ∧ H r = some (.tup [.int (a.to.i : Nat), .int a.to.b, .str a.to.u])
theorem arcs_keep {H H' : Hp} (e : ∀ b xs, H b = some (.tup xs) → H' b = some (.tup xs)) : ∀ {vs : List V} {as : List Ar}, Paired (ArcAt H) vs as → Paired (ArcAt H') vs as
  | _, _, .nil => .nil
  | _, _, .cons ⟨q, r, h1, h2, h3⟩ t => .cons ⟨q, r, h1, e _ _ h2, e _ _ h3⟩ (arcs_keep e t)
theorem seq_via {t u : TS} {D : Ends} {σ : L2.St} {H : Hp} (I : L2.St → Hp → Prop) (h1 : ∀ C : L2.St → Hp → Prop, (∀ σ' H', I σ' H' → C σ' H') → t { D with nx := C } σ H) (h2 : ∀ σ' H', I σ' H' → u D σ' H') : tSeq t u D σ H := h1 _ h2
theorem arcs_bounds {T : Ta} (ok : T.Ok) {p : Pl} (h : T.In p) {ys : List Str} (nd : ys.Nodup) (hy : ∀ z, z ∈ ys ↔ Beg T.ts z) : ys.length ≤ 60 ∧ (arcsB T ys p).length ≤ 120 := by
  have sub : ∀ z ∈ ys, z ∈ (T.ts.flatMap fun t => (List.range t.length).map fun k => takeS t (k + 1)) := fun z hz => by
    obtain ⟨t, ht, k, hk, e⟩ := (hy z).mp hz
    exact List.mem_flatMap.mpr ⟨t, ht, List.mem_map.mpr ⟨k, List.mem_range.mpr hk, e.symm⟩⟩
  have l1 := nodup_len nd sub
  have l2 : ∀ l : List Str, (∀ z ∈ l, z.length ≤ 12) → (l.flatMap fun t => (List.range t.length).map fun k => takeS t (k + 1)).length ≤ 12 * l.length := fun l => by
    induction l with
    | nil => intro _; exact Nat.le_refl _
    | cons x l ih =>
      intro hl
      rw [List.flatMap_cons, List.length_append, List.length_map, List.length_range, List.length_cons]
      have := hl x List.mem_cons_self
      have := ih fun z hz => hl z (List.mem_cons_of_mem _ hz)
      omega
  have l3 := l2 T.ts fun z hz => (ok.len z hz).2
  have l4 := ok.few
  have l5 : ys.length ≤ 60 := by omega
  refine ⟨l5, ?_⟩
  have l6 := flat_len (arcsE_len T p) (entsOf T.ts ys p.u)
  have l7 : (entsOf T.ts ys p.u).length ≤ ys.length := by
    unfold entsOf
    rw [List.length_map]
    exact List.length_filter_le _ _
  unfold arcsB
  omega
def Ta.bk (T : Ta) : Bk := ⟨T.count, T.fin, T.tab⟩
theorem Ta.Ok.bk {T : Ta} (ok : T.Ok) : T.bk.Ok T.ts.length := ⟨by show 1 ≤ T.tab.length; rw [ok.tl]; exact ok.cnt, fun r hr => by
  obtain ⟨h1, h2⟩ := ok.row r hr
  refine ⟨h1, fun x hx => ?_⟩
  show -1 ≤ x ∧ x < (T.tab.length : Int)
  rw [ok.tl]
  exact h2 x hx⟩
theorem ents_get {H : Hp} : ∀ {vs : List V} {es : List Ent} {i : Nat} {v : V} {e : Ent}, Paired (EntAt H) vs es → vs[i]? = some v → es[i]? = some e → EntAt H v e
  | _, _, i, _, _, .nil, h, _ => by simp at h
  | _, _, 0, _, _, .cons h1 _, h, k => by
    rw [← Option.some.inj h, ← Option.some.inj k]
    exact h1
  | _, _, i + 1, _, _, .cons _ t, h, k => ents_get (i := i) t h k
section
variable {P : Program} {w : World} {K : PySem.W.Frag} {mg : Str → Option Value} {base : Heap}
def sp__arcs_from (K : PySem.W.Frag) : Sp := fun vs H Q _ => ∃ (pa W tb : Addr) (tv : List V) (T : Ta) (ys : List Str) (p : Pl), vs = [.ref pa, .ref W, .ref tb, .str T.g, .str (modeS T.hl)] ∧ H pa = some (.tup [.int (p.i : Nat), .int p.b, .str p.u]) ∧ WaysAt H W T.ts ys ∧ SqT K H tb tv ∧ Rows K H tv T.tab ∧
  T.Ok ∧ T.In p ∧ ys.Nodup ∧ (∀ z, z ∈ ys ↔ Beg T.ts z) ∧
  ∀ (L : Addr) (us : List V) (as : List Ar) H', Same H H' → H L = none → H' L = some (.lst us) → Paired (ArcAt H') us as → as.Nodup → (∀ a, a ∈ as ↔ IsArc T p a) → as.length ≤ 120 → Q (.ref L) H'
theorem ok__arcs_from (T : Tx K mg) : FnOk P w K mg base CX0 1 T.f__arcs_from T.d__arcs_from ["place", "ways", "table", "begun", "mode"] (sp__arcs_from K) := by
  refine T.F__arcs_from.ok sc__arcs_from (fun vs H Q E h => ?_) (fun cdv A outer s H vs Q E hr h => ?_)
  · obtain ⟨pa, W, tb, tv, T, ys, p, rfl, _⟩ := h; rfl
  · obtain ⟨pa, W, tb, tv, Ta, ys, p, rfl, hpa, hW, hT, hR, ok, hin, nd, hy, q⟩ := h
    refine ⟨_, (pss_cons (ps_asg (pv 0) (pg_tup (by rfl) (pgs_cons (pg_name (i := 5) sc__arcs_from.nd rfl (Or.inl rfl)) (pgs_cons (pg_name (i := 6) sc__arcs_from.nd rfl (Or.inl rfl)) (pgs_cons (pg_name (i := 7) sc__arcs_from.nd rfl (Or.inl rfl)) pgs_nil)))))
    (C8.pss_cut (ps_if (PW.pt (pw_and (pt_cmpR op_eq (pv 4) pe_str (nomark _)) (pw_and1 (pt_cmpR op_lt (pv 5) (pe_callB call_len_str (by rfl) T.n_len (by decide +kernel) (pa_cons (pv 3) pa_nil)) (nomark _))))) (pss_one (ps_ret (pe_lst (pa_cons (pe_tup (pa_cons (pe_ix ix_str (pv 3) (pv 5) (fun _ _ => rfl)) (pa_cons (pe_tup (pa_cons (pe_op op_add (pv 5) pe_int) (pa_cons pe_int (pa_cons pe_str pa_nil)))) (pa_cons (pe_un un_neg pe_int) pa_nil)))) pa_nil)))) pss_nil)
    (pss_cons (ps_set (i := 8) sc__arcs_from.nd rfl (Or.inl rfl) (pe_callB (call_min2 rfl) (by rfl) T.n_min (by decide +kernel) (pa_cons (pe_callB call_len_str (by rfl) T.n_len (by decide +kernel) (pa_cons (pv 3) pa_nil)) (pa_cons (pe_op op_add (pv 5) pe_int) pa_nil))))
    (pss_cons (ps_set (i := 9) sc__arcs_from.nd rfl (Or.inl rfl) (pe_lst pa_nil))
    (pss_cons (ps_for PassesOwn.never rfl (pi_list (pe_dget (hu_of hr) (pv 1) (pv 7) (fun _ _ => rfl))) (pg_tup (by rfl) (pgs_cons (pg_name (i := 10) sc__arcs_from.nd rfl (Or.inl rfl)) (pgs_cons (pg_name (i := 11) sc__arcs_from.nd rfl (Or.inl rfl)) (pgs_cons (pg_name (i := 12) sc__arcs_from.nd rfl (Or.inl rfl)) pgs_nil))))
    (C8.pss_cut (ps_if (PW.pt (pw_and (pt_cmpR op_lt (pv 5) (pe_callB call_len_str (by rfl) T.n_len (by decide +kernel) (pa_cons (pv 3) pa_nil)) (nomark _)) (pw_and1 (pt_cmpR op_ne (pv 10) (pe_ix ix_str (pv 3) (pv 5) (fun _ _ => rfl)) (nomark _))))) (pss_one ps_continue) pss_nil)
    (C8.pss_cut (ps_if (pt_val (pv 11)) (pss_one (ps_expr (pe_bm PySem.F.plainAttrs_list PySem.F.slot_list_append PySem.F.type_list_append mt_append (pv 9) (pa_cons (pe_tup (pa_cons (pv 10) (pa_cons (pe_tup (pa_cons (pv 8) (pa_cons (pv 6) (pa_cons (pe_op op_add_str (pv 7) (pv 10)) pa_nil)))) (pa_cons (pe_un un_neg pe_int) pa_nil)))) pa_nil)))) pss_nil)
    (pss_one (ps_if (PW.pt (pw_and (pt_cmpR op_ge (pv 12) pe_int (nomark _)) (pw_and1 (pt_cmpR op_ge (pe_ix ix_tup (pe_ix ix_tup (pv 2) (pv 6) (fun _ _ => rfl)) (pv 12) (fun _ _ => rfl)) pe_int (nomark _))))) (pss_one (ps_expr (pe_bm PySem.F.plainAttrs_list PySem.F.slot_list_append PySem.F.type_list_append mt_append (pv 9) (pa_cons (pe_tup (pa_cons (pv 10) (pa_cons (pe_tup (pa_cons (pv 8) (pa_cons (pe_ix ix_tup (pe_ix ix_tup (pv 2) (pv 6) (fun _ _ => rfl)) (pv 12) (fun _ _ => rfl)) (pa_cons pe_str pa_nil)))) (pa_cons (pv 12) pa_nil)))) pa_nil)))) pss_nil)))))
    (pss_one (ps_ret (pv 9)))))))), ?_⟩
    have bnd := arcs_bounds ok hin nd hy
    refine ⟨.ref pa, rfl, pa, _, rfl, .inl (.inl hpa), rfl, .int (p.i : Nat), _, rfl, .int p.b, _, rfl, .str p.u, _, rfl, rfl, ?_⟩
    have gl := ok.gl
    have yes : Ta.ahead p → ∀ c, Ta.g.cps.toList[p.i]? = some c → ∀ (L : Addr) (us : List V) H', Same H H' → H L = none → H' L = some (.lst us) → Paired (ArcAt H') us [⟨oneS c, ⟨p.i + 1, 0, ""⟩, -1⟩] → Q (.ref L) H' := fun ha c hc L us H' sm nL hL hp => by
      refine q L us _ H' sm nL hL hp (List.pairwise_singleton _ _) (fun a => ⟨fun h => ?_, fun h => ?_⟩) (by simp)
      · rw [List.mem_singleton.mp h]
        exact .ahead ha.1 hc
      · cases h with
        | ahead e1 e2 =>
          rw [hc] at e2
          rw [Option.some.inj e2]
          exact List.mem_cons_self
        | inner e1 => exact absurd ha e1
        | ends e1 => exact absurd ha e1
    refine ⟨fun σ' H' => H' = H ∧ ¬ Ta.ahead p ∧ σ' = [some (.ref pa), some (.ref W), some (.ref tb), some (.str Ta.g), some (.str (modeS Ta.hl)), some (.int (p.i : Nat)), some (.int p.b), some (.str p.u), none, none, none, none, none], ?_, fun σ' H1 h => ?_⟩
    · refine ⟨.str (modeS Ta.hl), rfl, rfl, _, rfl, ?_⟩
      rw [mode_eq]
      cases hh : Ta.hl with
      | true => exact if_ff ⟨rfl, fun z => (by rw [z.1] at hh; cases hh), rfl⟩
      | false =>
        refine if_tt ?_
        refine ⟨.int (p.i : Nat), rfl, .str Ta.g, rfl, Ta.g, rfl, small' (by omega), _, _, rfl, rfl, _, rfl, ite2 (fun z => ?_) (fun z => ?_)⟩
        · have lt : p.i < Ta.g.length := by have := of_decide_eq_true z; omega
          have ec : Ta.g.cps.toList[p.i]? = some (Ta.g.cps.toList[p.i]'(by rw [glen]; exact lt)) := List.getElem?_eq_getElem _
          generalize Ta.g.cps.toList[p.i]'(by rw [glen]; exact lt) = c at ec
          refine ⟨.str Ta.g, rfl, .int (p.i : Nat), rfl, Ta.g, (p.i : Nat), c, rfl, rfl, small' (by omega), atI_nat (j := p.i) ec, .int (p.i : Nat), rfl, _, _, rfl, rfl, small' (by simp), fun r nr => ?_⟩
          have sr := same_new (o := .tup [V.int ((p.i : Nat) + 1), V.int 0, V.str ""]) nr
          refine ⟨1, rfl, small' (by simp), fun r2 nr2 => ?_⟩
          have sr2 := same_new (o := .tup [V.str ⟨#[c]⟩, V.ref r, V.int (-1)]) nr2
          refine ⟨small' (by simp), fun L nL => ?_⟩
          have sL := same_new (o := .lst [V.ref r2]) nL
          exact yes ⟨hh, lt⟩ c ec L _ _ ((sr.trans sr2).trans sL) ((sr.trans sr2).free nL) upd_same (.cons ⟨r2, r, rfl, sL _ _ upd_same, sL _ _ (sr2 _ _ upd_same)⟩ .nil)
        · exact ⟨rfl, fun y => z (decide_eq_true (by have := y.2; omega)), rfl⟩
    obtain ⟨rfl, na, rfl⟩ := h
    have em : (if ((p.i : Nat) : Int) + 1 < ((Ta.g.length : Nat) : Int) then ((p.i : Nat) : Int) + 1 else ((Ta.g.length : Nat) : Int)) = ((afterG Ta p : Nat) : Int) := by
      unfold afterG
      split <;> omega
    refine ⟨.str Ta.g, rfl, Ta.g, rfl, small' (by omega), .int (p.i : Nat), rfl, _, _, rfl, rfl, _, _, rfl, ?_⟩
    rw [em]
    refine ⟨Nat.zero_le _, fun L nL => ?_⟩
    have sL := same_new (o := .lst []) nL
    have hL : (upd H1 L (.lst [])) L = some (.lst []) := upd_same
    obtain ⟨kvs, hW0, hways⟩ := hW
    obtain ⟨A, us, gA, hA, hE⟩ := hways p.u hin.2.2.2
    have gW := DGet.k (k := Sum.inr p.u) (sL _ _ hW0)
    rw [gA] at gW
    generalize upd H1 L (.lst []) = H2 at sL hL gW ⊢
    have le : us.length = (entsOf Ta.ts ys p.u).length := Paired.length hE
    refine ⟨.ref W, rfl, .str p.u, rfl, W, .ref A, rfl, gW, A, rfl, ⟨_, .inl (.inl (sL _ _ hA))⟩, ?_⟩
    refine for_list (K := K) (a := A) (xs := us) (fun i σ H' => ∃ (y10 y11 y12 : Option V) (vs : List V), σ = [some (.ref pa), some (.ref W), some (.ref tb), some (.str Ta.g), some (.str (modeS Ta.hl)), some (.int (p.i : Nat)), some (.int p.b), some (.str p.u), some (.int (afterG Ta p : Nat)), some (.ref L), y10, y11, y12] ∧ Same H1 H' ∧ H' L = some (.lst vs) ∧ Paired (ArcAt H') vs (((entsOf Ta.ts ys p.u).take i).flatMap (arcsE Ta p)))
      ⟨none, none, none, [], rfl, sL, hL, .nil⟩ (fun i σ H' _ h => ?_) (fun i x σ H' ex h => ?_) (fun σ H' h => ?_)
    · obtain ⟨_, _, _, _, _, s3, _⟩ := h
      exact .inl (.inl (s3 _ _ hA))
    · obtain ⟨y10, y11, y12, vs, rfl, s3, hL3, hP⟩ := h
      have lti := (List.getElem?_eq_some_iff.mp ex).1
      have ee : (entsOf Ta.ts ys p.u)[i]? = some ((entsOf Ta.ts ys p.u)[i]'(by omega)) := List.getElem?_eq_getElem _
      generalize (entsOf Ta.ts ys p.u)[i]'(by omega) = e at ee
      obtain ⟨q0, rfl, hq0⟩ := ents_get hE ex ee
      have lvs : vs.length ≤ 120 := by
        have h1 := Paired.length hP
        have h2 := flat_len (arcsE_len Ta p) ((entsOf Ta.ts ys p.u).take i)
        rw [List.length_take] at h2
        have h3 : (entsOf Ta.ts ys p.u).length ≤ ys.length := by
          unfold entsOf
          rw [List.length_map]
          exact List.length_filter_le _ _
        have := bnd.1
        omega
      have etk : ((entsOf Ta.ts ys p.u).take (i + 1)).flatMap (arcsE Ta p) = ((entsOf Ta.ts ys p.u).take i).flatMap (arcsE Ta p) ++ arcsE Ta p e := by
        rw [take_snoc ee, List.flatMap_append, List.flatMap_singleton]
      refine ⟨q0, _, rfl, .inl (.inl (s3 _ _ hq0)), rfl, .str e.1, _, rfl, .bl e.2.1, _, rfl, .int e.2.2, _, rfl, rfl, ?_⟩
      refine ⟨fun σ' H4 => H4 = H' ∧ ¬ (p.i < Ta.g.length ∧ e.1 ≠ oneS ((Ta.g.cps.toList[p.i]?).getD 0)) ∧ σ' = [some (.ref pa), some (.ref W), some (.ref tb), some (.str Ta.g), some (.str (modeS Ta.hl)), some (.int (p.i : Nat)), some (.int p.b), some (.str p.u), some (.int (afterG Ta p : Nat)), some (.ref L), some (.str e.1), some (.bl e.2.1), some (.int e.2.2)], ?_, fun σ' H4 h => ?_⟩
      · refine ⟨.int (p.i : Nat), rfl, .str Ta.g, rfl, Ta.g, rfl, small' (by omega), _, _, rfl, rfl, _, rfl, ite2 (fun z => ?_) (fun z => ?_)⟩
        · have lt : p.i < Ta.g.length := by have := of_decide_eq_true z; omega
          have ec : Ta.g.cps.toList[p.i]? = some (Ta.g.cps.toList[p.i]'(by rw [glen]; exact lt)) := List.getElem?_eq_getElem _
          generalize Ta.g.cps.toList[p.i]'(by rw [glen]; exact lt) = c at ec
          refine ⟨.str e.1, rfl, .str Ta.g, rfl, .int (p.i : Nat), rfl, Ta.g, (p.i : Nat), c, rfl, rfl, small' (by omega), atI_nat (j := p.i) ec, rfl, _, rfl, ?_⟩
          by_cases cc : e.1 = oneS c
          · have e1 : (V.str e.1 = V.str (⟨#[c]⟩ : Str)) := by rw [cc]; rfl
            rw [decide_eq_true e1]
            refine if_ff ⟨rfl, fun y => y.2 ?_, rfl⟩
            rw [ec]
            exact cc
          · have e1 : ¬ (V.str e.1 = V.str (⟨#[c]⟩ : Str)) := fun y => cc (V.str.inj y)
            rw [decide_eq_false e1]
            refine if_tt ⟨_, _, _, vs, rfl, s3, hL3, ?_⟩
            have ey : arcsE Ta p e = [] := by
              unfold arcsE
              rw [if_pos ⟨lt, by rw [ec]; exact cc⟩]
            rw [etk, ey, List.append_nil]
            exact hP
        · exact ⟨rfl, fun y => z (decide_eq_true (by have := y.1; omega)), rfl⟩
      obtain ⟨rfl, ns, rfl⟩ := h
      have ey : arcsE Ta p e = (if e.2.1 = true then [⟨e.1, ⟨afterG Ta p, p.b, p.u ++ e.1⟩, -1⟩] else []) ++ (if 0 ≤ e.2.2 ∧ 0 ≤ cellG Ta.tab p.b e.2.2 then [⟨e.1, ⟨afterG Ta p, cellG Ta.tab p.b e.2.2, ""⟩, e.2.2⟩] else []) := by
        unfold arcsE
        rw [if_neg ns]
      have he : ∃ z, e = entOf Ta.ts z := by
        obtain ⟨z, _, hz⟩ := List.mem_map.mp (List.mem_of_getElem? ee)
        exact ⟨z, hz.symm⟩
      have he1 : e.1.length = 1 := by
        obtain ⟨z, rfl⟩ := he
        rfl
      have hu : p.u.length ≤ 100 := by
        obtain ⟨t9, ht, k, hk, e9⟩ := hin.2.2.2
        rw [e9, takeS_len (by omega)]
        have := (ok.len _ ht).2
        omega
      refine ⟨fun σ' H5 => ∃ vs2, σ' = [some (.ref pa), some (.ref W), some (.ref tb), some (.str Ta.g), some (.str (modeS Ta.hl)), some (.int (p.i : Nat)), some (.int p.b), some (.str p.u), some (.int (afterG Ta p : Nat)), some (.ref L), some (.str e.1), some (.bl e.2.1), some (.int e.2.2)] ∧ Same H1 H5 ∧ H5 L = some (.lst vs2) ∧ vs2.length ≤ vs.length + 1 ∧
        Paired (ArcAt H5) vs2 (((entsOf Ta.ts ys p.u).take i).flatMap (arcsE Ta p) ++ (if e.2.1 = true then [⟨e.1, ⟨afterG Ta p, p.b, p.u ++ e.1⟩, -1⟩] else [])), ?_, fun σ' H5 h => ?_⟩
      · refine ⟨.bl e.2.1, rfl, e.2.1, rfl, ?_⟩
        cases hb : e.2.1 with
        | true =>
          refine if_tt ?_
          refine ⟨.ref L, rfl, .inl ⟨rfl, _, .inl (.inl hL3)⟩, .str e.1, rfl, .int (afterG Ta p : Nat), rfl, .int p.b, rfl, .str p.u, rfl, .str e.1, rfl, p.u, e.1, rfl, rfl, small' (by omega), small' (by simp), fun r nr => ?_⟩
          have sr := same_new (o := .tup [V.int (afterG Ta p : Nat), V.int p.b, V.str (p.u ++ e.1)]) nr
          have hr1 : (upd H4 r (.tup [V.int (afterG Ta p : Nat), V.int p.b, V.str (p.u ++ e.1)])) r = some (.tup [V.int (afterG Ta p : Nat), V.int p.b, V.str (p.u ++ e.1)]) := upd_same
          generalize upd H4 r (.tup [V.int (afterG Ta p : Nat), V.int p.b, V.str (p.u ++ e.1)]) = H5 at sr hr1 ⊢
          refine ⟨1, rfl, small' (by simp), fun r2 nr2 => ?_⟩
          have sr2 := same_new (o := .tup [V.str e.1, V.ref r, V.int (-1)]) nr2
          have hr2 : (upd H5 r2 (.tup [V.str e.1, V.ref r, V.int (-1)])) r2 = some (.tup [V.str e.1, V.ref r, V.int (-1)]) := upd_same
          generalize upd H5 r2 (.tup [V.str e.1, V.ref r, V.int (-1)]) = H6 at sr2 hr2 ⊢
          have hL6 := sr2 _ _ (sr _ _ hL3)
          refine ⟨L, vs, .ref r2, rfl, rfl, hL6, small (by omega), ?_⟩
          have kt : ∀ b xs, H6 b = some (.tup xs) → (upd H6 L (.lst (vs ++ [.ref r2]))) b = some (.tup xs) := fun b xs ex => tup_upd hL6 ex
          refine ⟨vs ++ [.ref r2], rfl, same_upd2 ((s3.trans sr).trans sr2) nL, upd_same, by rw [List.length_append]; exact Nat.le_refl _, ?_⟩
          rw [if_pos rfl]
          exact Paired.snoc (arcs_keep (fun b xs ex => kt _ _ (sr2 _ _ (sr _ _ ex))) hP) ⟨r2, r, rfl, kt _ _ hr2, kt _ _ (sr2 _ _ hr1)⟩
        | false =>
          refine if_ff ⟨vs, rfl, s3, hL3, Nat.le_succ _, ?_⟩
          rw [if_neg (by decide), List.append_nil]
          exact hP
      obtain ⟨vs2, rfl, s5, hL5, lv2, hP5⟩ := h
      have fin : ∀ H6 vs3, Same H1 H6 → H6 L = some (.lst vs3) → Paired (ArcAt H6) vs3 (((entsOf Ta.ts ys p.u).take i).flatMap (arcsE Ta p) ++ (if e.2.1 = true then [⟨e.1, ⟨afterG Ta p, p.b, p.u ++ e.1⟩, -1⟩] else []) ++ (if 0 ≤ e.2.2 ∧ 0 ≤ cellG Ta.tab p.b e.2.2 then [⟨e.1, ⟨afterG Ta p, cellG Ta.tab p.b e.2.2, ""⟩, e.2.2⟩] else [])) →
        ∃ (y10 y11 y12 : Option V) (vs : List V), ([some (.ref pa), some (.ref W), some (.ref tb), some (.str Ta.g), some (.str (modeS Ta.hl)), some (.int (p.i : Nat)), some (.int p.b), some (.str p.u), some (.int (afterG Ta p : Nat)), some (.ref L), some (.str e.1), some (.bl e.2.1), some (.int e.2.2)] : L2.St) = [some (.ref pa), some (.ref W), some (.ref tb), some (.str Ta.g), some (.str (modeS Ta.hl)), some (.int (p.i : Nat)), some (.int p.b), some (.str p.u), some (.int (afterG Ta p : Nat)), some (.ref L), y10, y11, y12] ∧ Same H1 H6 ∧ H6 L = some (.lst vs) ∧ Paired (ArcAt H6) vs (((entsOf Ta.ts ys p.u).take (i + 1)).flatMap (arcsE Ta p)) := fun H6 vs3 h1 h2 h3 => by
          refine ⟨_, _, _, vs3, rfl, h1, h2, ?_⟩
          rw [etk, ey, ← List.append_assoc]
          exact h3
      refine ⟨.int e.2.2, rfl, _, _, rfl, rfl, _, rfl, ite2 (fun z => ?_) (fun z => ?_)⟩
      · have z0 : 0 ≤ e.2.2 := of_decide_eq_true z
        obtain ⟨tn, etn, htn⟩ : ∃ t : Nat, e.2.2 = (t : Int) ∧ t < Ta.ts.length := by
          obtain ⟨zz, rfl⟩ := he
          obtain ⟨t, h1, h2⟩ := numAt_get zz _ (Nat.le_refl _) z0
          exact ⟨t, h1, (List.getElem?_eq_some_iff.mp h2).1⟩
        have btab := ok.tl
        obtain ⟨c1, c2, _, _⟩ := (ok.bk).cell (s := p.b) (t := e.2.2) hin.2.1 (by show p.b < (Ta.tab.length : Int); rw [btab]; exact hin.2.2.1) z0 (by omega)
        have c1 : Ta.tab[p.b.toNat]? = some (rowAt Ta.tab p.b) := c1
        have c2 : (rowAt Ta.tab p.b)[e.2.2.toNat]? = some (cellG Ta.tab p.b e.2.2) := c2
        obtain ⟨pn, epn, hpn⟩ := (hR.grow s5).get c1
        refine ⟨.ref tb, rfl, .int p.b, rfl, tb, tv, p.b, _, rfl, rfl, seqT_grow s5 hT, at_ref hin.2.1 epn, .int e.2.2, rfl, pn, _, e.2.2, _, rfl, rfl, hpn, at_map z0 c2, _, _, rfl, rfl, _, rfl, ite2 (fun y => ?_) (fun y => ?_)⟩
        · have y0 : 0 ≤ cellG Ta.tab p.b e.2.2 := of_decide_eq_true y
          refine ⟨.ref L, rfl, .inl ⟨rfl, _, .inl (.inl hL5)⟩, .str e.1, rfl, .int (afterG Ta p : Nat), rfl, .ref tb, rfl, .int p.b, rfl, tb, tv, p.b, _, rfl, rfl, seqT_grow s5 hT, at_ref hin.2.1 epn, .int e.2.2, rfl, pn, _, e.2.2, _, rfl, rfl, hpn, at_map z0 c2, small' (by simp), fun r nr => ?_⟩
          have sr := same_new (o := .tup [V.int (afterG Ta p : Nat), V.int (cellG Ta.tab p.b e.2.2), V.str ""]) nr
          have hr1 : (upd H5 r (.tup [V.int (afterG Ta p : Nat), V.int (cellG Ta.tab p.b e.2.2), V.str ""])) r = some (.tup [V.int (afterG Ta p : Nat), V.int (cellG Ta.tab p.b e.2.2), V.str ""]) := upd_same
          generalize upd H5 r (.tup [V.int (afterG Ta p : Nat), V.int (cellG Ta.tab p.b e.2.2), V.str ""]) = H6 at sr hr1 ⊢
          refine ⟨.int e.2.2, rfl, small' (by simp), fun r2 nr2 => ?_⟩
          have sr2 := same_new (o := .tup [V.str e.1, V.ref r, V.int e.2.2]) nr2
          have hr2 : (upd H6 r2 (.tup [V.str e.1, V.ref r, V.int e.2.2])) r2 = some (.tup [V.str e.1, V.ref r, V.int e.2.2]) := upd_same
          generalize upd H6 r2 (.tup [V.str e.1, V.ref r, V.int e.2.2]) = H7 at sr2 hr2 ⊢
          have hL7 := sr2 _ _ (sr _ _ hL5)
          refine ⟨L, vs2, .ref r2, rfl, rfl, hL7, small (by omega), ?_⟩
          have kt : ∀ b xs, H7 b = some (.tup xs) → (upd H7 L (.lst (vs2 ++ [.ref r2]))) b = some (.tup xs) := fun b xs ex => tup_upd hL7 ex
          refine fin _ (vs2 ++ [.ref r2]) (same_upd2 ((s5.trans sr).trans sr2) nL) upd_same ?_
          rw [if_pos (show 0 ≤ e.2.2 ∧ 0 ≤ cellG Ta.tab p.b e.2.2 from ⟨z0, y0⟩)]
          exact Paired.snoc (arcs_keep (fun b xs ex => kt _ _ (sr2 _ _ (sr _ _ ex))) hP5) ⟨r2, r, rfl, kt _ _ hr2, kt _ _ (sr2 _ _ hr1)⟩
        · refine fin H5 vs2 s5 hL5 ?_
          rw [if_neg (fun h : 0 ≤ e.2.2 ∧ 0 ≤ cellG Ta.tab p.b e.2.2 => y (decide_eq_true h.2)), List.append_nil]
          exact hP5
      · refine fin H5 vs2 s5 hL5 ?_
        rw [if_neg (fun h : 0 ≤ e.2.2 ∧ 0 ≤ cellG Ta.tab p.b e.2.2 => z (decide_eq_true h.1)), List.append_nil]
        exact hP5
    · obtain ⟨y10, y11, y12, vs, rfl, s3, hL3, hP⟩ := h
      rw [le, List.take_length] at hP
      refine ⟨.ref L, rfl, ?_⟩
      exact q L vs _ H' s3 nL hL3 hP (arcsB_nd nd (fun z hz => beg_len ((hy z).mp hz)) p) (fun a => arcsB_mem ok hy na a) bnd.2
end
end K58
set_option Elab.async false
set_option linter.all false
set_option maxRecDepth 100000
set_option maxHeartbeats 2000000
namespace Ver
open PySem PySem.Spec PyProof.Rows L2
def tDispT1 (tk tv : TE) : TE := fun σ H Q => ∀ p, H p = none → tk σ (upd H p (.dT [])) fun y H1 => tv σ H1 fun z H2 => PutT H2 p y z fun H' => Q (.ref p) H'
theorem pe_dispT1 {X : Cx} {pos : Pos} {k v : Expr} {tk tv : TE} (hu : X.A.units < cLine) (hk : PE X k tk) (hv : PE X v tv) : PE X (.Dict [some k] [v] pos) (tDispT1 tk tv) := by
  refine ⟨fun pins s σ H Q I q => ?_⟩
  have hn := I.hok.fresh (Nat.le_refl s.heap.objs.size)
  have I1 := I.laid (a := s.heap.objs.size) (o := .dT []) (h' := s.heap.push { cls := .type "dict", data := .dict #[] }) (t' := s.toks)
    (fun _ _ q => Heap.get?_push_of_some _ q) (Nat.le_refl _) (dt_empty s.heap I.big)
  refine wpAny_Dict_any rfl rfl (List.cons_ne_nil _ _) (by show 1 ≤ 15; decide) ?_
  refine pairTrees_cons_walk (thn (hk.run pins _ σ _ _ I1 (q _ hn)) fun u s1 ⟨y, H1, I1, ry, q1⟩ =>
    thn (hv.run pins s1 σ H1 _ I1 q1) fun r s2 ⟨z, H2, I2, rz, put⟩ => pairTrees_nil_walk ?_)
  unfold storeAll
  rw [List.forIn_cons]
  refine wpAny_bind (wpAny_bind (putT_set hu I2 put ry rz fun H' s' I' nx => ?_))
  refine wpAny_pure ?_
  show wpAny _ _ (forIn ([] : List (Value × Value)) PUnit.unit _) _ _ _
  rw [List.forIn_nil]
  exact wpAny_pure ⟨.ref s.heap.objs.size, _, I', rfl, nx⟩
end Ver
set_option Elab.async false
set_option linter.all false
set_option maxRecDepth 100000
set_option maxHeartbeats 2000000
namespace K58
open PySem PySem.Spec PyProof.Rows L2 Ver LamX
def plKey (p : Pl) : List L2.Key := [.inl (p.i : Int), .inl p.b, .inr p.u]
def plV (p : Pl) : List V := [.int (p.i : Nat), .int p.b, .str p.u]
theorem plKey_V (p : Pl) : (plKey p).map kV = plV p := rfl
theorem plKey_inj {p q : Pl} (h : plKey p = plKey q) : p = q := by
  obtain ⟨i, b, u⟩ := p
  obtain ⟨i', b', u'⟩ := q
  have h1 := (List.cons.inj h).1
  have h2 := (List.cons.inj (List.cons.inj h).2).1
  have h3 := (List.cons.inj (List.cons.inj (List.cons.inj h).2).2).1
  have e1 : (i : Int) = i' := Sum.inl.inj h1
  have e2 : b = b' := Sum.inl.inj h2
  have e3 : u = u' := Sum.inr.inj h3
  have e1' : i = i' := by omega
  subst e1' e2 e3
  rfl
def PlAt (H : Hp) (v : V) (p : Pl) : Prop := ∃ r, v = .ref r ∧ H r = some (.tup (plV p))
theorem pls_keep {H H' : Hp} (e : ∀ b xs, H b = some (.tup xs) → H' b = some (.tup xs)) : ∀ {vs : List V} {ps : List Pl}, Paired (PlAt H) vs ps → Paired (PlAt H') vs ps
  | _, _, .nil => .nil
  | _, _, .cons ⟨r, h1, h2⟩ t => .cons ⟨r, h1, e _ _ h2⟩ (pls_keep e t)
def DoneAt (H : Hp) (T : Ta) (N : List Pl) (Du : Addr) (kvs : List (List L2.Key × V)) (q : Pl) : Prop := ∃ l us as, valV kvs (plKey q) = some (.ref l) ∧ l ≠ Du ∧ H l = some (.lst us) ∧ Paired (ArcAt H) us as ∧ as.Nodup ∧ (∀ a, a ∈ as ↔ IsArc T q a) ∧ as.length ≤ 120 ∧ ∀ a ∈ as, a.to ∈ N
theorem DoneAt.mono {H H' : Hp} {T : Ta} {N N' : List Pl} {Du : Addr} {kvs kvs' : List (List L2.Key × V)} {q : Pl} (h : DoneAt H T N Du kvs q) (kl : ∀ b xs, b ≠ Du → H b = some (.lst xs) → H' b = some (.lst xs)) (kt : ∀ b xs, H b = some (.tup xs) → H' b = some (.tup xs))
    (kv : valV kvs' (plKey q) = valV kvs (plKey q)) (sub : ∀ p ∈ N, p ∈ N') : DoneAt H' T N' Du kvs' q := by
  obtain ⟨l, us, as, h1, h2, h3, h4, h5, h6, h7, h8⟩ := h
  exact ⟨l, us, as, by rw [kv]; exact h1, h2, kl _ _ h2 h3, arcs_keep kt h4, h5, h6, h7, fun a ha => sub _ (h8 a ha)⟩
def KnownAt (H : Hp) (D : Addr) (T : Ta) (L : List Pl) : Prop := ∃ kvs, H D = some (.dT kvs) ∧ kvs.map (·.1) = L.map plKey ∧ ∀ p ∈ L, ∃ l us as, valV kvs (plKey p) = some (.ref l) ∧ H l = some (.lst us) ∧ Paired (ArcAt H) us as ∧ as.Nodup ∧ (∀ a, a ∈ as ↔ IsArc T p a) ∧ as.length ≤ 120
theorem keys_none {kvs : List (List L2.Key × V)} {N : List Pl} (h : kvs.map (·.1) = N.map plKey) {p : Pl} : (valV kvs (plKey p)).isSome = decide (p ∈ N) := by
  induction kvs generalizing N with
  | nil =>
    cases N with
    | nil => rfl
    | cons q N => cases h
  | cons x kvs ih =>
    cases N with
    | nil => cases h
    | cons q N =>
      have h1 : x.1 = plKey q := (List.cons.inj h).1
      have h2 := ih (List.cons.inj h).2
      by_cases e : q = p
      · subst e
        rw [valV_pos h1, decide_eq_true List.mem_cons_self]
        rfl
      · have ne : ¬ x.1 = plKey p := fun z => e (plKey_inj (h1.symm.trans z))
        rw [valV_neg ne, h2]
        by_cases m : p ∈ N
        · rw [decide_eq_true m, decide_eq_true (List.mem_cons_of_mem _ m)]
        · rw [decide_eq_false m, decide_eq_false (fun z => (List.mem_cons.mp z).elim (fun y => e y.symm) m)]
theorem keys_put_old {kvs : List (List L2.Key × V)} {k : List L2.Key} {v : V} (h : (valV kvs k).isSome = true) : (putK kvs k v).map (·.1) = kvs.map (·.1) := by
  unfold putK
  rw [valV_any, if_pos h, List.map_map]
  refine List.map_congr_left fun x _ => ?_
  show (if x.1 = k then (x.1, v) else x).1 = x.1
  split <;> rfl
theorem snoc_split {α : Type} : ∀ {l : List α}, l ≠ [] → ∃ l' x, l = l' ++ [x]
  | l, h => ⟨_, _, (List.dropLast_concat_getLast h).symm⟩
theorem paired_snoc_inv {α β : Type} {R : α → β → Prop} : ∀ {as : List α} {bs : List β} {b : β}, Paired R as (bs ++ [b]) → ∃ as' a, as = as' ++ [a] ∧ Paired R as' bs ∧ R a b
  | _, [], b, .cons h .nil => ⟨[], _, rfl, .nil, h⟩
  | _, c :: bs, b, .cons h t => by
    obtain ⟨as', a, e, h1, h2⟩ := paired_snoc_inv t
    exact ⟨_ :: as', a, by rw [e]; rfl, .cons h h1, h2⟩
theorem rows_keep {K : PySem.W.Frag} {H H' : Hp} (e : ∀ b xs, H b = some (.tup xs) → H' b = some (.tup xs)) : ∀ {vs : List V} {rs : List (List Int)}, Rows K H vs rs → Rows K H' vs rs
  | _, _, .nil => .nil
  | _, _, .cons ⟨p, h1, h2⟩ t => .cons ⟨p, h1, e _ _ h2⟩ (rows_keep e t)
theorem nodup_sub_len {T : Ta} (ok : T.Ok) {N : List Pl} (nd : N.Nodup) (h : ∀ p ∈ N, Reach T p) : N.length ≤ T.most := few_places nd fun p hp => reach_in ok (h p hp)
theorem big {n : Nat} (h : n ≤ 10000000) : n < sizeLine := by rw [sizeLine_eq]; omega
theorem big' {n : Nat} (h : n ≤ 10000000) : n ≤ sizeLine := Nat.le_of_lt (big h)
theorem arcs_get {H : Hp} : ∀ {vs : List V} {es : List Ar} {i : Nat} {v : V} {e : Ar}, Paired (ArcAt H) vs es → vs[i]? = some v → es[i]? = some e → ArcAt H v e
  | _, _, i, _, _, .nil, h, _ => by simp at h
  | _, _, 0, _, _, .cons h1 _, h, k => by
    rw [← Option.some.inj h, ← Option.some.inj k]
    exact h1
  | _, _, i + 1, _, _, .cons _ t, h, k => arcs_get (i := i) t h k
section
variable {P : Program} {w : World} {K : PySem.W.Frag} {mg : Str → Option Value} {base : Heap}
def sp__places_and_arcs (K : PySem.W.Frag) (TS : List (Addr × Str)) : Sp := fun vs H Q _ => ∃ (t a : Addr) (T : Ta), vs = [.ref t, .ref a, .str T.g, .str (modeS T.hl)] ∧ SqT K H t (T.ts.map V.str) ∧ BkAt K H a T.bk ∧ T.Ok ∧ T.most ≤ 20000 ∧ Tabs TS H ∧
  ∀ (H2 : Hp) (D : Addr) (L : List Pl), ExtN H H2 → Tabs TS H2 → L.Nodup → (∀ p, p ∈ L ↔ Reach T p) → KnownAt H2 D T L → Q (.ref D) H2
theorem ok__places_and_arcs {cc cP cd cS : Addr} (T : Tx K mg) (TB : Tb T base cc cP cd cS) : FnOk P w K mg base CX0 4 T.f__places_and_arcs T.d__places_and_arcs ["tokens", "book", "begun", "mode"] (sp__places_and_arcs K (TT cP cS)) := by
  refine T.F__places_and_arcs.ok sc__places_and_arcs (fun vs H Q E h => ?_) (fun cdv A outer s H vs Q E hr h => ?_)
  · obtain ⟨t, a, T, rfl, _⟩ := h; rfl
  · obtain ⟨t, a, Ta, rfl, hT, hB, ok, hm, hTb, q⟩ := h
    refine ⟨_, (pss_cons (ps_set (i := 4) sc__places_and_arcs.nd rfl (Or.inl rfl) (pe_call (ok_spelled_on T TB) hr rfl T.g_spelled_on T.F_spelled_on.kp T.b_spelled_on .nil pass0 (pa_cons (pv 0) pa_nil)))
    (pss_cons (ps_set (i := 5) sc__places_and_arcs.nd rfl (Or.inl rfl) (pe_tup (pa_cons pe_int (pa_cons pe_int (pa_cons pe_str pa_nil)))))
    (pss_cons (ps_set (i := 6) sc__places_and_arcs.nd rfl (Or.inl rfl) (pe_dispT1 (Nat.lt_of_succ_lt (hu_of hr)) (pv 5) (pe_lst pa_nil)))
    (pss_cons (ps_set (i := 7) sc__places_and_arcs.nd rfl (Or.inl rfl) (pe_lst (pa_cons (pv 5) pa_nil)))
    (pss_cons (ps_while PassesOwn.never (pt_cmpR op_gt (pe_callB call_len_seq (by rfl) T.n_len (by decide +kernel) (pa_cons (pv 7) pa_nil)) pe_int (nomark _))
    (pss_cons (ps_set (i := 8) sc__places_and_arcs.nd rfl (Or.inl rfl) (pe_bm0 PySem.F.plainAttrs_list PySem.F.slot_list_pop PySem.F.type_list_pop mt_pop (pv 7)))
    (pss_cons (ps_set (i := 9) sc__places_and_arcs.nd rfl (Or.inl rfl) (pe_call (ok__arcs_from T) (hr.mono (by decide)) rfl T.g__arcs_from T.F__arcs_from.kp T.b__arcs_from .nil pass0 (pa_cons (pv 8) (pa_cons (pv 4) (pa_cons (pe_ix ix_tup (pv 1) pe_int (fun _ _ => rfl)) (pa_cons (pv 2) (pa_cons (pv 3) pa_nil)))))))
    (pss_cons (ps_dput (hu_of hr) (pv 6) (pv 8) (pv 9) rfl)
    (pss_one (ps_for PassesOwn.never rfl (pi_list (pv 9)) (pg_name (i := 10) sc__places_and_arcs.nd rfl (Or.inl rfl))
    (pss_cons (ps_set (i := 11) sc__places_and_arcs.nd rfl (Or.inl rfl) (pe_ix ix_tup (pv 10) pe_int (fun _ _ => rfl)))
    (pss_one (ps_if (pt_cmp (pc_dnotin (hu_of hr) (pv 11) (pv 6)) (by rfl)) (pss_cons (ps_dput (hu_of hr) (pv 6) (pv 11) (pe_lst pa_nil) rfl)
    (pss_one (ps_expr (pe_bm PySem.F.plainAttrs_list PySem.F.slot_list_append PySem.F.type_list_append mt_append (pv 7) (pa_cons (pv 11) pa_nil))))) pss_nil)))))))))
    (pss_one (ps_ret (pv 6)))))))), ?_⟩
    refine ⟨.ref t, rfl, t, Ta.ts, rfl, hT, Nat.le_trans ok.few (by decide), fun z hz => (ok.len z hz).2, hTb, fun H1 ys W e1 t1 nd hy hW => ?_⟩
    have hB1 : BkAt K H1 a Ta.bk := by
      obtain ⟨f, t, tv, h1, h2, h3, h4⟩ := hB
      exact ⟨f, t, tv, seqT_ext e1 h1, seqT_ext e1 h2, seqT_ext e1 h3, rows_keep (fun b xs e => e1 _ _ e fun ps z => by cases z) h4⟩
    obtain ⟨fp, tb, tv, k1, k2, k3, k4⟩ := hB1
    refine ⟨small' (by simp), fun sp nsp => ?_⟩
    have sS := same_new (o := .tup [V.int 0, V.int 0, V.str ""]) nsp
    have hS : (upd H1 sp (.tup [V.int 0, V.int 0, V.str ""])) sp = some (.tup (plV ⟨0, 0, ""⟩)) := upd_same
    generalize upd H1 sp (.tup [V.int 0, V.int 0, V.str ""]) = H2 at sS hS ⊢
    refine fun D nD => ?_
    have sD := same_new (o := .dT []) nD
    have hD : (upd H2 D (.dT [])) D = some (.dT []) := upd_same
    have nDH : H1 D = none := sS.free nD
    generalize upd H2 D (.dT []) = H3 at sD hD ⊢
    refine ⟨.ref sp, rfl, Nat.zero_le _, fun l0 nl0 => ?_⟩
    have sl := same_new (o := .lst []) nl0
    have hl0 : (upd H3 l0 (.lst [])) l0 = some (.lst []) := upd_same
    have hD4 := sl _ _ hD
    have hS4 := sl _ _ (sD _ _ hS)
    generalize upd H3 l0 (.lst []) = H4 at sl hl0 hD4 hS4 ⊢
    have s14 := (sS.trans sD).trans sl
    refine ⟨[], plKey ⟨0, 0, ""⟩, sp, rfl, hS4, hD4, (by show 0 < sizeLine; decide), ?_⟩
    have s15 : Same H1 (upd H4 D (.dT (putK [] (plKey ⟨0, 0, ""⟩) (.ref l0)))) := same_upd2 s14 nDH
    have hD5 : (upd H4 D (.dT (putK [] (plKey ⟨0, 0, ""⟩) (.ref l0)))) D = some (.dT [(plKey ⟨0, 0, ""⟩, .ref l0)]) := upd_same
    have hS5 : (upd H4 D (.dT (putK [] (plKey ⟨0, 0, ""⟩) (.ref l0)))) sp = some (.tup (plV ⟨0, 0, ""⟩)) := by
      rw [upd_ne (fun e => by rw [e, hD4] at hS4; cases hS4)]
      exact hS4
    generalize upd H4 D (.dT (putK [] (plKey ⟨0, 0, ""⟩) (.ref l0))) = H5 at s15 hD5 hS5 ⊢
    refine ⟨.ref sp, rfl, small' (by simp), fun Du nDu => ?_⟩
    have sDu := same_new (o := .lst [V.ref sp]) nDu
    have hDu : (upd H5 Du (.lst [V.ref sp])) Du = some (.lst [V.ref sp]) := upd_same
    have nDuH : H1 Du = none := s15.free nDu
    have DDu : D ≠ Du := fun e => by rw [e, nDu] at hD5; cases hD5
    have hD6 := sDu _ _ hD5
    have hS6 := sDu _ _ hS5
    have s16 := s15.trans sDu
    generalize upd H5 Du (.lst [V.ref sp]) = H6 at sDu hDu hD6 hS6 s16 ⊢
    refine ⟨fun m σ H' => ∃ (N Dl : List Pl) (kvs : List (List L2.Key × V)) (vd : List V) (y8 y9 y10 y11 : Option V), σ = [some (.ref t), some (.ref a), some (.str Ta.g), some (.str (modeS Ta.hl)), some (.ref W), some (.ref sp), some (.ref D), some (.ref Du), y8, y9, y10, y11] ∧ Same H1 H' ∧ H' D = some (.dT kvs) ∧ kvs.map (·.1) = N.map plKey ∧ N.Nodup ∧ (∀ p ∈ N, Reach Ta p) ∧ (⟨0, 0, ""⟩ : Pl) ∈ N ∧
      H' Du = some (.lst vd) ∧ Paired (PlAt H') vd Dl ∧ Dl.Nodup ∧ (∀ p ∈ Dl, p ∈ N) ∧ (∀ p ∈ N, p ∉ Dl → DoneAt H' Ta N Du kvs p) ∧ m = 2 * (Ta.most - N.length) + Dl.length,
      ⟨_, [⟨0, 0, ""⟩], [⟨0, 0, ""⟩], _, _, none, none, none, none, rfl, s16, hD6, rfl, List.pairwise_singleton _ _, fun p hp => by rw [List.mem_singleton.mp hp]; exact .start, List.mem_cons_self, hDu, .cons ⟨sp, rfl, hS6⟩ .nil, List.pairwise_singleton _ _, fun p hp => hp, fun p hp np => absurd hp np, rfl⟩, fun m σ H' h => ?_⟩
    obtain ⟨N, Dl, kvs, vd, y8, y9, y10, y11, rfl, s7, hD7, ek, ndN, hN, hst, hDu7, hP, ndD, subD, hdone, rfl⟩ := h
    refine ⟨.ref Du, rfl, Du, _, rfl, .inl (.inl (.inl hDu7)), _, _, rfl, rfl, _, rfl, ite2 (fun z => ?_) (fun z => ?_)⟩
    · -- one more place
      have ne : Dl ≠ [] := fun e => by
        have h1 := of_decide_eq_true z
        have h2 := Paired.length hP
        rw [e] at h2
        have h3 : vd.length = 0 := h2
        rw [h3] at h1
        exact absurd h1 (by decide)
      obtain ⟨Dl1, p, rfl⟩ := snoc_split ne
      obtain ⟨vd1, v, rfl, hP1, hv⟩ := paired_snoc_inv hP
      obtain ⟨pa, rfl, hpa⟩ := hv
      obtain ⟨nd1, _, nd3⟩ := List.nodup_append.mp ndD
      have pN : p ∈ N := subD p (List.mem_append_right _ List.mem_cons_self)
      have pnD : p ∉ Dl1 := fun h => nd3 p h p List.mem_cons_self rfl
      have lN := nodup_sub_len ok ndN hN
      refine ⟨fun σ' H2 => ∃ (N2 Dl2 : List Pl) (kvs : List (List L2.Key × V)) (vd : List V) (y8 y9 y10 y11 : Option V), σ' = [some (.ref t), some (.ref a), some (.str Ta.g), some (.str (modeS Ta.hl)), some (.ref W), some (.ref sp), some (.ref D), some (.ref Du), y8, y9, y10, y11] ∧ Same H1 H2 ∧ H2 D = some (.dT kvs) ∧ kvs.map (·.1) = N2.map plKey ∧ N2.Nodup ∧ (∀ p ∈ N2, Reach Ta p) ∧ (⟨0, 0, ""⟩ : Pl) ∈ N2 ∧
        H2 Du = some (.lst vd) ∧ Paired (PlAt H2) vd Dl2 ∧ Dl2.Nodup ∧ (∀ p ∈ Dl2, p ∈ N2) ∧ (∀ p ∈ N2, p ∉ Dl2 → DoneAt H2 Ta N2 Du kvs p) ∧ Dl2.length + N.length = Dl1.length + N2.length ∧ N.length ≤ N2.length, fun σ' H2 ⟨N2, Dl2, kvs, vd, y8, y9, y10, y11, e, a1, a2, a3, a4, a5, a6, a7, a8, a9, a10, a11, a12, a13⟩ => ?_, ?_⟩
      · have l2 := nodup_sub_len ok a4 a5
        exact ⟨2 * (Ta.most - N2.length) + Dl2.length, by rw [List.length_append]; simp only [List.length_singleton]; omega, N2, Dl2, kvs, vd, y8, y9, y10, y11, e, a1, a2, a3, a4, a5, a6, a7, a8, a9, a10, a11, rfl⟩
      refine ⟨.ref Du, rfl, .inl ⟨rfl, _, .inl (.inl hDu7)⟩, Du, _, .ref pa, rfl, rfl, hDu7, by rw [List.length_append, List.length_singleton, Nat.add_sub_cancel, List.getElem?_append_right (Nat.le_refl _), Nat.sub_self]; rfl, ?_⟩
      rw [List.dropLast_concat]
      have sP : Same H1 (upd H' Du (.lst vd1)) := same_upd2 s7 nDuH
      have hDu8 : (upd H' Du (.lst vd1)) Du = some (.lst vd1) := upd_same
      have hD8 : (upd H' Du (.lst vd1)) D = some (.dT kvs) := by rw [upd_ne DDu]; exact hD7
      have kt8 : ∀ b xs, H' b = some (.tup xs) → (upd H' Du (.lst vd1)) b = some (.tup xs) := fun b xs e => tup_upd hDu7 e
      have kl8 : ∀ b xs, b ≠ Du → H' b = some (.lst xs) → (upd H' Du (.lst vd1)) b = some (.lst xs) := fun b xs nb e => by rw [upd_ne nb]; exact e
      generalize upd H' Du (.lst vd1) = H8 at sP hDu8 hD8 kt8 kl8 ⊢
      have hpa8 := kt8 _ _ hpa
      have hWP : WaysAt H8 W Ta.ts ys := by
        obtain ⟨kw, w1, w2⟩ := hW
        refine ⟨kw, sP _ _ w1, fun u hu => ?_⟩
        obtain ⟨A, us, x1, x2, x3⟩ := w2 u hu
        exact ⟨A, us, x1, sP _ _ x2, ents_keep (fun b xs e => sP _ _ e) x3⟩
      refine ⟨.ref pa, rfl, .ref W, rfl, .ref a, rfl, a, _, 2, .ref tb, rfl, rfl, seqT_grow sP k1, rfl, .str Ta.g, rfl, .str (modeS Ta.hl), rfl, pa, W, tb, tv, Ta, ys, p, rfl, hpa8, hWP, seqT_grow sP k3, k4.grow sP, ok, reach_in ok (hN p pN), nd, hy, fun L0 us as H9 s9 nL0 hL0 hAs ndA memA lA => ?_⟩
      have hDu9 := s9 _ _ hDu8
      have hD9 := s9 _ _ hD8
      have hpa9 := s9 _ _ hpa8
      have L0D : L0 ≠ D := fun e => by rw [e, hD9] at hL0; cases hL0
      have L0Du : L0 ≠ Du := fun e => by rw [e, hDu8] at nL0; cases nL0
      have s19 := sP.trans s9
      have someP : (valV kvs (plKey p)).isSome = true := (keys_none ek).trans (decide_eq_true pN)
      have lkv : kvs.length = N.length := by have := congrArg List.length ek; rw [List.length_map, List.length_map] at this; exact this
      refine ⟨.ref L0, rfl, .ref D, rfl, .ref pa, rfl, D, _, rfl, DPut.t (k := plKey p) hD9 hpa9 (big (by omega)), ?_⟩
      have hD10 : (upd H9 D (.dT (putK kvs (plKey p) (.ref L0)))) D = some (.dT (putK kvs (plKey p) (.ref L0))) := upd_same
      have s110 : Same H1 (upd H9 D (.dT (putK kvs (plKey p) (.ref L0)))) := same_upd2 s19 nDH
      have hDu10 : (upd H9 D (.dT (putK kvs (plKey p) (.ref L0)))) Du = some (.lst vd1) := by rw [upd_ne (Ne.symm DDu)]; exact hDu9
      have kt10 : ∀ b xs, H9 b = some (.tup xs) → (upd H9 D (.dT (putK kvs (plKey p) (.ref L0)))) b = some (.tup xs) := fun b xs e => by rw [upd_ne (fun q => by rw [q, hD9] at e; cases e)]; exact e
      have kl10 : ∀ b xs, H9 b = some (.lst xs) → (upd H9 D (.dT (putK kvs (plKey p) (.ref L0)))) b = some (.lst xs) := fun b xs e => by rw [upd_ne (fun q => by rw [q, hD9] at e; cases e)]; exact e
      generalize upd H9 D (.dT (putK kvs (plKey p) (.ref L0))) = H10 at hD10 s110 hDu10 kt10 kl10 ⊢
      have hL10 := kl10 _ _ hL0
      have hAs10 := arcs_keep kt10 hAs
      have ek1 : (putK kvs (plKey p) (.ref L0)).map (·.1) = N.map plKey := (keys_put_old someP).trans ek
      have hP10 : Paired (PlAt H10) vd1 Dl1 := pls_keep (fun b xs e => kt10 _ _ (s9 _ _ (kt8 _ _ e))) hP1
      have lus : us.length = as.length := Paired.length hAs
      refine ⟨.ref L0, rfl, L0, rfl, ⟨_, .inl (.inl hL10)⟩, ?_⟩
      refine for_list (K := K) (a := L0) (xs := us) (fun j σ H' => ∃ (N2 Dl2 : List Pl) (kvs : List (List L2.Key × V)) (vd : List V) (y10 y11 : Option V), σ = [some (.ref t), some (.ref a), some (.str Ta.g), some (.str (modeS Ta.hl)), some (.ref W), some (.ref sp), some (.ref D), some (.ref Du), some (.ref pa), some (.ref L0), y10, y11] ∧ Same H1 H' ∧ H' D = some (.dT kvs) ∧ kvs.map (·.1) = N2.map plKey ∧ N2.Nodup ∧ (∀ p ∈ N2, Reach Ta p) ∧ (∀ p ∈ N, p ∈ N2) ∧
        H' Du = some (.lst vd) ∧ Paired (PlAt H') vd Dl2 ∧ Dl2.Nodup ∧ (∀ p ∈ Dl2, p ∈ N2) ∧ p ∉ Dl2 ∧ (∀ r ∈ N2, r ∉ Dl2 → r ≠ p → DoneAt H' Ta N2 Du kvs r) ∧ valV kvs (plKey p) = some (.ref L0) ∧ H' L0 = some (.lst us) ∧ Paired (ArcAt H') us as ∧ (∀ a ∈ as.take j, a.to ∈ N2) ∧ Dl2.length + N.length = Dl1.length + N2.length ∧ N.length ≤ N2.length)
        ⟨N, Dl1, _, _, y10, y11, rfl, s110, hD10, ek1, ndN, hN, fun p hp => hp, hDu10, hP10, nd1, fun p hp => subD p (List.mem_append_left _ hp), pnD, fun r hr nr np => ?_, by rw [valV_put, if_pos rfl], hL10, hAs10, (fun a ha => by rw [List.take_zero] at ha; cases ha), rfl, Nat.le_refl _⟩ (fun j σ H' _ h => ?_) (fun j x σ H' ex h => ?_) (fun σ H' h => ?_)
      · refine (hdone r hr (fun h => ?_)).mono (fun b xs nb e => kl10 _ _ (s9 _ _ (kl8 _ _ nb e))) (fun b xs e => kt10 _ _ (s9 _ _ (kt8 _ _ e))) ?_ (fun _ h => h)
        · rcases List.mem_append.mp h with h | h
          · exact nr h
          · exact np (List.mem_singleton.mp h)
        · rw [valV_put, if_neg (fun e => np (plKey_inj e))]
      · obtain ⟨_, _, _, _, _, _, _, _, _, _, _, _, _, _, _, _, _, _, _, _, hL', _⟩ := h
        exact .inl (.inl hL')
      · obtain ⟨N2, Dl2, kvs2, vd2, y10, y11, rfl, b1, b2, b3, b4, b5, b6, b7, b8, b9, b10, b11, b12, b13, b14, b15, b16, b17, b18⟩ := h
        have ltj := (List.getElem?_eq_some_iff.mp ex).1
        have ea : as[j]? = some (as[j]'(by omega)) := List.getElem?_eq_getElem _
        generalize as[j]'(by omega) = ar at ea
        obtain ⟨q0, r0, rfl, hq0, hr0⟩ := arcs_get b15 ex ea
        have marc : IsArc Ta p ar := (memA ar).mp (List.mem_of_getElem? ea)
        have l2N := nodup_sub_len ok b4 b5
        have lkv2 : kvs2.length = N2.length := by have := congrArg List.length b3; rw [List.length_map, List.length_map] at this; exact this
        refine ⟨.ref q0, rfl, q0, _, 1, .ref r0, rfl, rfl, .inl (.inl hq0), rfl, ?_⟩
        have gD := DGet.t (k := plKey ar.to) b2 hr0
        refine ⟨.ref r0, rfl, .ref D, rfl, D, _, rfl, gD, _, rfl, ?_⟩
        rw [keys_none b3]
        by_cases c : ar.to ∈ N2
        · rw [decide_eq_true c]
          refine if_ff ⟨N2, Dl2, kvs2, vd2, _, _, rfl, b1, b2, b3, b4, b5, b6, b7, b8, b9, b10, b11, b12, b13, b14, b15, fun a ha => ?_, b17, b18⟩
          rw [take_snoc ea] at ha
          rcases List.mem_append.mp ha with ha | ha
          · exact b16 a ha
          · rw [List.mem_singleton.mp ha]; exact c
        · rw [decide_eq_false c]
          refine if_tt ?_
          refine ⟨Nat.zero_le _, fun l1 nl1 => ?_⟩
          have s1 := same_new (o := .lst []) nl1
          generalize upd H' l1 (.lst []) = H11 at s1 ⊢
          have d11 := s1 _ _ b2
          have r11 := s1 _ _ hr0
          have noneT : valV kvs2 (plKey ar.to) = none := none_of_isSome ((keys_none b3).trans (decide_eq_false c))
          refine ⟨.ref D, rfl, .ref r0, rfl, D, _, rfl, DPut.t (k := plKey ar.to) d11 r11 (big (by omega)), ?_⟩
          rw [putK_new _ noneT]
          have hD12 : (upd H11 D (.dT (kvs2 ++ [(plKey ar.to, .ref l1)]))) D = some (.dT (kvs2 ++ [(plKey ar.to, .ref l1)])) := upd_same
          have s112 : Same H1 (upd H11 D (.dT (kvs2 ++ [(plKey ar.to, .ref l1)]))) := same_upd2 (b1.trans s1) nDH
          have hDu12 : (upd H11 D (.dT (kvs2 ++ [(plKey ar.to, .ref l1)]))) Du = some (.lst vd2) := by rw [upd_ne (Ne.symm DDu)]; exact s1 _ _ b7
          have kt12 : ∀ b xs, H11 b = some (.tup xs) → (upd H11 D (.dT (kvs2 ++ [(plKey ar.to, .ref l1)]))) b = some (.tup xs) := fun b xs e => by rw [upd_ne (fun q => by rw [q, d11] at e; cases e)]; exact e
          have kl12 : ∀ b xs, H11 b = some (.lst xs) → (upd H11 D (.dT (kvs2 ++ [(plKey ar.to, .ref l1)]))) b = some (.lst xs) := fun b xs e => by rw [upd_ne (fun q => by rw [q, d11] at e; cases e)]; exact e
          generalize upd H11 D (.dT (kvs2 ++ [(plKey ar.to, .ref l1)])) = H12 at hD12 s112 hDu12 kt12 kl12 ⊢
          have lvd : vd2.length = Dl2.length := Paired.length b8
          have lD2 := nodup_sub_len ok b9 (fun p hp => b5 p (b10 p hp))
          refine ⟨.ref Du, rfl, .inl ⟨rfl, _, .inl (.inl hDu12)⟩, .ref r0, rfl, Du, _, _, rfl, rfl, hDu12, big (by omega), ?_⟩
          have hDu13 : (upd H12 Du (.lst (vd2 ++ [.ref r0]))) Du = some (.lst (vd2 ++ [.ref r0])) := upd_same
          have hD13 : (upd H12 Du (.lst (vd2 ++ [.ref r0]))) D = some (.dT (kvs2 ++ [(plKey ar.to, .ref l1)])) := by rw [upd_ne DDu]; exact hD12
          have s113 : Same H1 (upd H12 Du (.lst (vd2 ++ [.ref r0]))) := same_upd2 s112 nDuH
          have kt13 : ∀ b xs, H' b = some (.tup xs) → (upd H12 Du (.lst (vd2 ++ [.ref r0]))) b = some (.tup xs) := fun b xs e => tup_upd hDu12 (kt12 _ _ (s1 _ _ e))
          have kl13 : ∀ b xs, b ≠ Du → H' b = some (.lst xs) → (upd H12 Du (.lst (vd2 ++ [.ref r0]))) b = some (.lst xs) := fun b xs nb e => by rw [upd_ne nb]; exact kl12 _ _ (s1 _ _ e)
          have sn : ∀ q ∈ N2, q ∈ N2 ++ [ar.to] := fun q hq => List.mem_append_left _ hq
          have kv13 : ∀ q ∈ N2, valV (kvs2 ++ [(plKey ar.to, .ref l1)]) (plKey q) = valV kvs2 (plKey q) := fun q hq => by
            rw [valV_snoc _ _ _ _ noneT, if_neg (fun e => c (by rw [← plKey_inj e]; exact hq))]
          refine ⟨N2 ++ [ar.to], Dl2 ++ [ar.to], _, _, _, _, rfl, s113, hD13, ?_, ?_, ?_, fun q hq => sn q (b6 q hq), hDu13, ?_, ?_, ?_, ?_, ?_, ?_, ?_, arcs_keep kt13 b15, ?_, ?_, ?_⟩
          · rw [List.map_append, List.map_append, b3]; rfl
          · exact List.nodup_append.mpr ⟨b4, List.pairwise_singleton _ _, fun x hx y hy e => c (by rw [← List.mem_singleton.mp hy, ← e]; exact hx)⟩
          · intro q hq
            rcases List.mem_append.mp hq with hq | hq
            · exact b5 q hq
            · rw [List.mem_singleton.mp hq]; exact .step (hN p pN) marc
          · exact Paired.snoc (pls_keep kt13 b8) ⟨r0, rfl, kt13 _ _ hr0⟩
          · exact List.nodup_append.mpr ⟨b9, List.pairwise_singleton _ _, fun x hx y hy e => c (by rw [← List.mem_singleton.mp hy, ← e]; exact b10 x hx)⟩
          · intro q hq
            rcases List.mem_append.mp hq with hq | hq
            · exact sn q (b10 q hq)
            · exact List.mem_append_right _ hq
          · intro h
            rcases List.mem_append.mp h with h | h
            · exact b11 h
            · exact c (by rw [← List.mem_singleton.mp h]; exact b6 p pN)
          · intro r hr nr np
            rcases List.mem_append.mp hr with hr2 | hr2
            · exact (b12 r hr2 (fun h => nr (List.mem_append_left _ h)) np).mono kl13 kt13 (kv13 r hr2) sn
            · exact absurd (List.mem_append_right _ hr2) nr
          · rw [kv13 p (b6 p pN)]; exact b13
          · exact kl13 _ _ L0Du b14
          · intro a ha
            rw [take_snoc ea] at ha
            rcases List.mem_append.mp ha with ha | ha
            · exact sn _ (b16 a ha)
            · rw [List.mem_singleton.mp ha]; exact List.mem_append_right _ List.mem_cons_self
          · rw [List.length_append, List.length_append, List.length_singleton]; omega
          · rw [List.length_append]; omega
      · obtain ⟨N2, Dl2, kvs2, vd2, y10, y11, rfl, b1, b2, b3, b4, b5, b6, b7, b8, b9, b10, b11, b12, b13, b14, b15, b16, b17, b18⟩ := h
        rw [lus, List.take_length] at b16
        refine ⟨N2, Dl2, kvs2, vd2, _, _, _, _, rfl, b1, b2, b3, b4, b5, b6 _ hst, b7, b8, b9, b10, fun r hr nr => ?_, b17, b18⟩
        by_cases c : r = p
        · subst c
          exact ⟨L0, us, as, b13, L0Du, b14, b15, ndA, memA, lA, b16⟩
        · exact b12 r hr nr c
    · -- none is due
      have e0 : Dl = [] := by
        have h2 := Paired.length hP
        have h3 : ¬ ((vd.length : Nat) : Int) > 0 := fun h => z (decide_eq_true h)
        exact List.eq_nil_of_length_eq_zero (by omega)
      subst e0
      refine ⟨.ref D, rfl, q H' D N (e1.trans (ExtN.of s7)) (t1.ext s7) ndN (fun p => ⟨hN p, fun hr => ?_⟩) ⟨kvs, hD7, ek, fun p hp => ?_⟩⟩
      · induction hr with
        | start => exact hst
        | @step p ar hp ha ih =>
          obtain ⟨l, us, as, _, _, _, _, _, x6, _, x8⟩ := hdone p ih (by simp)
          exact x8 ar ((x6 ar).mpr ha)
      · obtain ⟨l, us, as, x1, x2, x3, x4, x5, x6, x7, x8⟩ := hdone p hp (by simp)
        exact ⟨l, us, as, x1, x3, x4, x5, x6, x7⟩
end
end K58
set_option Elab.async false
set_option linter.all false
set_option maxRecDepth 100000
set_option maxHeartbeats 4000000
namespace Ver
open PySem PySem.Spec PyProof.Rows L2 LamX
theorem each_vals : ∀ {xs : List V} {us : List Value} {ds : List PyData}, Vals xs us → xs.length = ds.length → PySem.W.EachIs (fun v (b : V × PyData) => RelV b.1 v) us (xs.zip ds)
  | _, _, [], .nil, _ => .nil
  | _, _, _ :: _, .nil, h => by cases h
  | _, _, [], .cons _ _, h => by cases h
  | _, _, d :: ds, .cons h1 h2, h => .cons h1 (each_vals h2 (Nat.succ.inj h))
theorem vals_each : ∀ {us : List Value} {zs : List (V × PyData)}, PySem.W.EachIs (fun v (b : V × PyData) => RelV b.1 v) us zs → Vals (zs.map Prod.fst) us
  | _, _, .nil => .nil
  | _, _, .cons h1 h2 => .cons h1 (vals_each h2)
theorem zip_snd {α β : Type} : ∀ {xs : List α} {ds : List β}, xs.length = ds.length → (xs.zip ds).map Prod.snd = ds
  | [], [], _ => rfl
  | [], _ :: _, h => by cases h
  | _ :: _, [], h => by cases h
  | _ :: xs, d :: ds, h => by
    show d :: (xs.zip ds).map Prod.snd = d :: ds
    rw [zip_snd (Nat.succ.inj h)]
section
variable {X : Cx} {pins : List (Addr × Obj)} {σ : L2.St} {H : Hp} {s : Shared}
theorem each_reads (I : Inv X pins σ H s) : ∀ {xs : List V} {us : List Value} {ds : List PyData}, Vals xs us → DpAll X.K H xs ds → PySem.W.EachIs (fun v (b : V × PyData) => ∃ as, Reads s.heap v b.2 as) us (xs.zip ds)
  | _, _, _, .nil, h => by cases h; exact .nil
  | _, _, _, .cons h1 h2, h => by
    cases h with
    | cons k1 k2 => exact .cons (Dp.reads I _ _ _ k1 h1) (each_reads I h2 k2)
def rSortDt (K : PySem.W.Frag) : List V → Hp → VK → Prop := fun vs H Q => ∃ (a : Addr) (xs : List V) (ds : List PyData), vs = [V.ref a] ∧ SqL K H a xs ∧ DpAll K H xs ds ∧ PySem.W.AllAlike ds ∧ PySem.W.Sortable ds ∧ (∀ d ∈ ds, d.depth ≤ 8) ∧
  ∀ (p : Addr), H p = none → Q (.ref p) (upd H p (.lst (((xs.zip ds).mergeSort (PySem.W.dataLe false Prod.snd)).map Prod.fst)))
theorem cr_sortDt {k : Nat} (hr : Room k X.A) : CallR X (.builtin "sorted") (rSortDt X.K) := by
  intro pins s σ H vs us Q I r h
  obtain ⟨a, xs, ds, rfl, hs, hd, hal, hk, hdp, q⟩ := h
  obtain ⟨its, rv, hl, hz⟩ := I.list hs
  rw [Vals.ref1 r]
  have lz : xs.length = ds.length := dpAll_len hd
  have hsnd : (xs.zip ds).map Prod.snd = ds := zip_snd lz
  have lzip : (xs.zip ds).length = xs.length := by rw [List.length_zip, ← lz, Nat.min_self]
  refine PySem.W.sorted_data (enc := Prod.snd) (bs := xs.zip ds) hl.isList (each_vals rv lz) (each_reads I rv hd) (by rw [hsnd]; exact hal) (by rw [hsnd]; exact hk) (by rw [lzip]; exact hz) (fun b hb => ?_) fun out lo eo => ?_
  · have h1 := hdp b.2 (by rw [← hsnd]; exact List.mem_map.mpr ⟨b, hb, rfl⟩)
    have := hr.un
    omega
  · obtain ⟨ep, he⟩ := PyProof.Rows.sortedAll_at s.heap its out.toArray
    have hlen : (((xs.zip ds).mergeSort (PySem.W.dataLe false Prod.snd)).map Prod.fst).length ≤ sizeLine := by
      rw [List.length_map, List.length_mergeSort, lzip]
      exact hz
    exact ⟨.ref _, upd H (s.heap.objs.size + 1) (.lst (((xs.zip ds).mergeSort (PySem.W.dataLe false Prod.snd)).map Prod.fst)), I.laid (t' := s.toks) (fun _ _ => PyProof.Rows.sortedAll_old) (Nat.le_succ _) ⟨hlen, out, ep, vals_each eo, he⟩, rfl, q _ (I.hok.fresh (Nat.le_succ _))⟩
end
section
open PySem.W
variable {prog : Program} {w : World} {A : Around} {E : Value → Shared → Prop} {s : Shared}
theorem collect_src {T : String} {r d : Addr} {n : Nat} {P : Nat → Value → Prop} {OK : Heap → Prop}
    {R : List Value → Shared → Prop} (K : KdlSrc prog w T r d n P OK)
    (hh : A.handled = none) (hok : OK s.heap) (hn : n ≤ sizeLine)
    (h : ∀ (h' : Heap) (tk : Nat) (acc : Array Value),
      (∀ b o, s.heap.get? b = some o → h'.get? b = some o) →
      s.heap.objs.size ≤ h'.objs.size → ItemsOf P acc n →
      R acc.toList { s with heap := h', toks := tk }) :
    wpAny (model prog w) A (collect (.ref r)) R E s := by
  have lt := K.there _ hok
  have new : ∀ o : Obj, ∀ b u, s.heap.get? b = some u →
      (s.heap.push o).get? b = some u :=
    fun o b u e => Heap.get?_push_of_some _ e
  unfold collect
  refine wpAny_bind (wpAny_runValue
    (codeAny_builtin entry_proto_collect' ?_))
  rw [Around.under_plainId
    PySem.F.plain_proto_collect _]
  show wpAny _ A.in1 (newList [] >>= fun l =>
    again (.builtin "list.__iadd__"
      ⟨[l, .ref r], []⟩)) _ _ s
  refine wpAny_bind (wpAny_newObj_type ?_)
  refine wpAny_pure ⟨plainId_quiet
    PySem.F.plain_list_iadd _,
    codeAny_builtin PyProof.Rows.entry_list_iadd' ?_⟩
  rw [Around.under_plainId
    PySem.F.plain_list_iadd _]
  have at0 : (s.heap.push { cls := .type "list", data := .seq ([] : List Value).toArray }).get?
      s.heap.objs.size = some { cls := .type "list", data := .seq #[] } := Heap.get?_push_size _ rfl
  show wpAny _ A.in1 (Builtin.List.listExtendWith
    (.ref s.heap.objs.size) (.ref r)
    (.ref s.heap.objs.size)) _ _ _
  have run := kdl_extend (A := A)
    (s := { s with heap := s.heap.push { cls := .type "list", data := .seq ([] : List Value).toArray } })
    (R := fun (q : Result) (s' : Shared) =>
      ∃ (h' : Heap) (tk : Nat) (acc : Array Value) (c : Nat),
        q = .ok (.ret (.ref s.heap.objs.size)) ∧
        s' = { s with heap := h', toks := tk } ∧
        (∀ b o, s.heap.get? b = some o → h'.get? b = some o) ∧
        h'.get? s.heap.objs.size = some { cls := .type "list", dict := none, data := .seq acc c, slots := #[] } ∧
        ItemsOf P acc n)
    K hh (K.keep _ _ hok fun b _ o e => new _ b o e)
    s.heap.objs.size (Nat.ne_of_gt lt.1)
    (Nat.ne_of_gt lt.2) (.ref s.heap.objs.size) 0 at0
    (fun h' tk acc c hk hS hacc => ⟨h', tk, acc, c, rfl, rfl,
      fun b o e => hk b o (Nat.ne_of_lt (Heap.lt_size e)) (new _ b o e),
      hS, hacc⟩) hn
  refine wpAny_mono run (fun f s' x => ?_)
    fun e s' x => ?_
  · cases f with
    | done f =>
      obtain ⟨h', tk, acc, c, e, rfl, hk, hS, hacc⟩ := x
      cases e
      refine wpAny_bind (wpAny_load hS ?_)
      exact wpAny_pure (h h' tk acc hk (Nat.le_of_lt (Heap.lt_size hS)) hacc)
    | again c1 =>
      refine ⟨x.1, codeAny_mono x.2 fun q s2 y => ?_⟩
      obtain ⟨h', tk, acc, c, rfl, rfl, hk, hS, hacc⟩ := y
      refine wpAny_bind (wpAny_load hS ?_)
      exact wpAny_pure (h h' tk acc hk (Nat.le_of_lt (Heap.lt_size hS)) hacc)
  · obtain ⟨_, _, _, _, e, _⟩ := x
    cases e
theorem sorted_of_src {T : String} {r d : Addr} {n : Nat} {P : Nat → Value → Prop} {OK : Heap → Prop} {kw : List (Str × Value)} {Q : Value → Shared → Prop} (K : KdlSrc prog w T r d n P OK) (hh : A.handled = none) (hok : OK s.heap) (hn : n ≤ sizeLine)
    (ha1 : argsOk "sorted" ⟨[.ref r], kw⟩) (ha2 : ∀ x, argsOk "list.sort" ⟨[.ref x], kw⟩)
    (body : ∀ (E' : Value → Shared → Prop) (h' : Heap) (tk : Nat) (vs : List Value), (∀ b o, s.heap.get? b = some o → h'.get? b = some o) → s.heap.objs.size ≤ h'.objs.size → vs.length = n → (∀ (j : Nat) (v : Value), vs[j]? = some v → P j v) →
      wpAny (model prog w) A.in1.in1 (Builtin.«list.sort» ⟨[.ref h'.objs.size], kw⟩) (fun f s' => f = .done (.ret .none) ∧ Q (.ref h'.objs.size) s') E' { s with heap := h'.push (seqObj "list" vs.toArray 0), toks := tk }) :
    wpAny (model prog w) A (call (.builtin "sorted") [.ref r] kw) Q E s := by
  refine call_function_entry_kw kind_sorted plain_sorted entry_sorted ha1 ?_
  unfold Builtin.«sorted»
  refine wpAny_bind (m := checkCount "sorted" 1 1 _) (wpAny_pure ?_)
  refine wpAny_bind (collect_src (A := A.in1) K hh hok hn fun h' tk acc hk hsz hacc => ?_)
  have hl : acc.toList.length = n := by rw [Array.length_toList]; exact hacc.1
  refine wpAny_bind (wpAny_newList ?_ (by rw [hl]; exact hn))
  have hoL : (h'.push (seqObj "list" acc.toList.toArray 0)).get? h'.objs.size = some (seqObj "list" acc.toList.toArray 0) := Heap.get?_push_size _ rfl
  refine wpAny_bind (wpAny_holding (wpAny_call_entry_kw slot_list_sort ⟨_, hoL, rfl⟩ entry_list_sort ?body (ha2 _)))
  case body =>
    refine wpAny_mono (body _ h' tk acc.toList hk hsz hl (fun j v e => hacc.2 j v (by rw [← Array.getElem?_toList]; exact e))) (fun f s' hf => ?_) fun _ _ e => e
    obtain ⟨rfl, hq⟩ := hf
    exact ⟨_, rfl, wpAny_pure ⟨_, rfl, hq⟩⟩
end
end Ver
set_option Elab.async false
set_option linter.all false
set_option maxRecDepth 100000
set_option maxHeartbeats 4000000
namespace Ver
open PySem PySem.Spec PyProof.Rows L2 LamX
abbrev P3 := Int × Int × Str
def p3K (p : P3) : List L2.Key := [.inl p.1, .inl p.2.1, .inr p.2.2]
def p3V (p : P3) : List V := [.int p.1, .int p.2.1, .str p.2.2]
def p3D (p : P3) : PyData := .tuple [.int p.1, .int p.2.2.length, .str p.2.2, .int p.2.1]
theorem p3_kV (p : P3) : (p3K p).map kV = p3V p := rfl
abbrev bodyP (a : Str) (p1 p2 p3 p4 p5 p6 p7 p8 p9 p10 p11 p12 p13 p14 p15 : Pos) (c1 c2 c3 c4 k5 : Nat) : Expr :=
  .Tuple [.Subscript (.Name a p1) (.Constant (.int 0) c1 p2) p3, .Call (.Name "len" p4) [.Subscript (.Name a p5) (.Constant (.int 2) c2 p6) p7] [] p8,
    .Subscript (.Name a p9) (.Constant (.int 2) c3 p10) p11, .Subscript (.Name a p12) (.Constant (.int 1) c4 p13) p14] k5 p15
section
variable {X : Cx} {pins : List (Addr × Obj)} {σ : L2.St} {H : Hp} {s : Shared}
theorem plkey_call {scope : Scope} {params : Arguments} {q : Str} {cl : List (Str × Addr)} {pm ctv : Value} {f c' : Addr} {a : Str} {p1 p2 p3 p4 p5 p6 p7 p8 p9 p10 p11 p12 p13 p14 p15 : Pos} {c1 c2 c3 c4 k5 : Nat} {b : Addr} {z : P3} {h : Heap} {tk : Nat} {A : Around}
    (I : Inv X pins σ H s) (hm : X.mg "len" = none)
    (hf : s.heap.get? f = some (PySem.W.kla_obj "<lambda>" q params (bodyP a p1 p2 p3 p4 p5 p6 p7 p8 p9 p10 p11 p12 p13 p14 p15 c1 c2 c3 c4 k5) scope cl pm c' ctv)) (hco : H c' = some (CodeO c' q))
    (hbind : ∀ (q : Str) (cl : List (Str × Addr)) (pm cv ctv v : Value), bindArgs (PySem.W.kla_fn "<lambda>" q params (bodyP a p1 p2 p3 p4 p5 p6 p7 p8 p9 p10 p11 p12 p13 p14 p15 c1 c2 c3 c4 k5) scope cl pm cv ctv) ⟨[v], []⟩ = pure [(a, v)])
    (hk : scope.kind = .function) (hcoR : scope.isCoroutine = false) (hgen : scope.isGenerator = false) (hcell : ∀ y ∈ scope.names, y.2 ≠ .cell) (hl : scope.names.lookup a = some .local) (hlen : scope.names.lookup ("len" : Str) = some .globalImplicit)
    (hd : (a == ("__debug__" : Str)) = false) (hr : A.depth < recursionLimit) (hx : z.2.2.length ≤ sizeLine) (hb : H b = some (.tup (p3V z))) (kp : ∀ b o, s.heap.get? b = some o → h.get? b = some o) :
    wpAny (model X.prog X.w) A (call (.ref f) [.ref b]) (PySem.W.KeyPure (p3D z) { s with heap := h, toks := tk }) (fun _ _ => False) { s with heap := h, toks := tk } := by
  obtain ⟨⟨oc, vs, tq, hoc, hdc, hvc⟩, _, _⟩ := I.hok c' _ hco
  obtain ⟨_, its, r2, ob, hob, hbc, nb, hbd⟩ := I.hok b _ hb
  obtain ⟨v0, v1, v2, ei, r0, r1, r3⟩ : ∃ v0 v1 v2, its = [v0, v1, v2] ∧ RelV (.int z.1) v0 ∧ RelV (.int z.2.1) v1 ∧ RelV (.str z.2.2) v2 := by
    cases r2 with
    | cons a1 t1 =>
      cases t1 with
      | cons a2 t2 =>
        cases t2 with
        | cons a3 t3 =>
          cases t3
          exact ⟨_, _, _, rfl, a1, a2, a3⟩
  subst ei
  obtain ⟨t0, rfl⟩ := r0
  obtain ⟨t1, rfl⟩ := r1
  obtain ⟨t2, rfl⟩ := r3
  obtain ⟨mb, b1, b2⟩ := I.mod.blt
  have kb : ∀ b o, X.base.get? b = some o → h.get? b = some o := fun b o e => kp b o (I.bk b o e)
  have rc : codeAny (model X.prog X.w) A (.call (.ref f) ⟨[.ref b], []⟩) (fun r s' => ∃ u, r = .ok (.ret u) ∧ PySem.W.KeyPure (p3D z) { s with heap := h, toks := tk } u s') { s with heap := h, toks := tk } := by
    refine PySem.W.kla_callFunE hr (kp _ _ hf) rfl hcoR hgen rfl ⟨c', oc, vs, tq, rfl, kp _ _ hoc, hdc, hvc⟩ ?_
    rw [hbind]
    refine wpAny_pure (wpAny_newFunctionEnv hcell (fun y hy => ?_) (fun h₁ hns hsb => ⟨(I.nolimit.keeps kp).fresh _ hsb, ?_⟩) hk)
    · rw [List.mem_singleton.mp hy]
      exact hl
    have kp1 : ∀ b o, h.get? b = some o → h₁.get? b = some o := fun b o e => hsb.extBut b o (Nat.ne_of_lt (Heap.lt_size e)) (Heap.get?_push_of_some _ e)
    have tp : IsTup h₁ b #[.int z.1 t0, .int z.2.1 t1, .str z.2.2 t2] := ⟨ob, kp1 _ _ (kp _ _ hob), hbc, nb, hbd⟩
    refine PySem.W.kla_codeExpr ?_
    show wpAny _ _ (eval _ (PySem.W.envX q scope h.objs.size f (.ref c') cl)) _ _ _
    refine wpAny_Tuple_spliced (args_cons (Subscript_ (wpAny_Name (wpAny_loadName_local hk hl hns (v := .ref b) (by simp) ?_) hd)) rfl)
    refine wpAny_Constant_int (item_tuple (j := 0) tp (by decide) (by decide) rfl rfl ?_)
    refine args_cons (Call_ (Calls.Name_function_global hk hlen (Calls.loadGlobal_builtin (I.mod.glob.keeps fun b o e => kp1 b o (kb b o e)) hm (b1.keeps fun b o e => kp1 b o (kb b o e)) ((b2 "len" (by decide)).trans boot_len) ?_)) rfl) rfl
    refine PyProof.Rows.callWith_builtin1 (args_cons (Subscript_ (wpAny_Name (wpAny_loadName_local hk hl hns (v := .ref b) (by simp) ?_) hd)) rfl) rfl rfl
    refine wpAny_Constant_int (item_tuple (j := 2) tp (by decide) (by decide) rfl rfl ?_)
    refine args_nil (len_str (by rw [sizeLine_eq] at hx; omega) ?_)
    refine args_cons (Subscript_ (wpAny_Name (wpAny_loadName_local hk hl hns (v := .ref b) (by simp) ?_) hd)) rfl
    refine wpAny_Constant_int (item_tuple (j := 2) tp (by decide) (by decide) rfl rfl ?_)
    refine args_cons (Subscript_ (wpAny_Name (wpAny_loadName_local hk hl hns (v := .ref b) (by simp) ?_) hd)) rfl
    refine wpAny_Constant_int (item_tuple (j := 1) tp (by decide) (by decide) rfl rfl ?_)
    refine args_nil ⟨by show 4 ≤ sizeLine; decide, ?_⟩
    refine ⟨_, rfl, _, _, rfl, fun b o e => Heap.get?_push_of_some _ (kp1 b o e), ?_⟩
    exact .tuple (Heap.get?_push_size _ rfl) rfl rfl (.cons (.int _ _) (.cons (.int _ _) (.cons (.str _ _) (.cons (.int _ _) .nil))))
  exact wpAny_call (codeAny_mono rc fun r s' ⟨u, e, hq⟩ => by subst e; exact hq)
end
end Ver
set_option Elab.async false
set_option linter.all false
set_option maxRecDepth 100000
set_option maxHeartbeats 4000000
namespace Ver
open PySem PySem.Spec PyProof.Rows L2 LamX
section
variable {X : Cx} {pins : List (Addr × Obj)} {σ : L2.St} {H : Hp} {s : Shared}
def sortedP (bs : List Addr) (ps : List P3) : List V := ((bs.zip ps).mergeSort (PySem.W.dataLe false fun z => p3D z.2)).map fun z => V.ref z.1
def PAt (H : Hp) (b : Addr) (q : P3) : Prop := H b = some (.tup (p3V q))
def tSortP (T : List (Addr × Str)) (te : TE) : TE := fun σ H Q => te σ H fun v H1 => ∃ (d : Addr) (kvs : List (List L2.Key × V)) (ps : List P3), v = .ref d ∧ H1 d = some (.dT kvs) ∧ kvs.map (·.1) = ps.map p3K ∧ (∀ p ∈ ps, p.2.2.length ≤ sizeLine) ∧ Tabs T H1 ∧
  ∀ (H2 : Hp) (bs : List Addr) (p : Addr), ExtN H1 H2 → Tabs T H2 → Paired (PAt H2) bs ps → H2 p = none → Q (.ref p) (upd H2 p (.lst (sortedP bs ps)))
theorem kt_keys {kvs : List (List L2.Key × V)} {xs : List (List L2.Key × Addr × Value)} (r : Paired (fun (p : List L2.Key × V) (q : List L2.Key × Addr × Value) => p.1 = q.1 ∧ H q.2.1 = some (.tup (p.1.map kV)) ∧ RelV p.2 q.2.2) kvs xs) :
    ∀ {ps : List P3}, kvs.map (·.1) = ps.map p3K → Paired (PAt H) (xs.map fun x => x.2.1) ps := by
  induction r with
  | nil =>
    intro ps h
    cases ps with
    | nil => exact .nil
    | cons p ps => cases h
  | @cons a b l1 l2 h1 h2 ih =>
    intro ps h
    cases ps with
    | nil => cases h
    | cons p ps =>
      have e1 : a.1 = p3K p := (List.cons.inj h).1
      refine .cons ?_ (ih (List.cons.inj h).2)
      have := h1.2.1
      rw [e1, p3_kV] at this
      exact this
theorem each_refs : ∀ {bs : List Addr} {ps : List P3}, bs.length = ps.length → PySem.W.EachIs (fun v (z : Addr × P3) => v = Value.ref z.1) (bs.map Value.ref) (bs.zip ps)
  | [], [], _ => .nil
  | [], _ :: _, h => by cases h
  | _ :: _, [], h => by cases h
  | b :: bs, p :: ps, h => .cons rfl (each_refs (Nat.succ.inj h))
theorem vals_refsP : ∀ {us : List Value} {zs : List (Addr × P3)}, PySem.W.EachIs (fun v (z : Addr × P3) => v = Value.ref z.1) us zs → Vals (zs.map fun z => V.ref z.1) us
  | _, _, .nil => .nil
  | _, _, .cons h1 h2 => .cons h1 (vals_refsP h2)
theorem paired_zip {α β : Type} {R : α → β → Prop} : ∀ {as : List α} {bs : List β}, Paired R as bs → ∀ z ∈ as.zip bs, R z.1 z.2
  | _, _, .nil, z, h => by cases h
  | _, _, .cons h1 h2, z, h => by
    rcases List.mem_cons.mp h with e | e
    · rw [e]; exact h1
    · exact paired_zip h2 z e
theorem paired_grow {H H' : Hp} (e : ∀ b xs, H b = some (.tup xs) → H' b = some (.tup xs)) : ∀ {bs : List Addr} {ps : List P3}, Paired (PAt H) bs ps → Paired (PAt H') bs ps
  | _, _, .nil => .nil
  | _, _, .cons h1 h2 => .cons (e _ _ h1) (paired_grow e h2)
theorem pe_sortP {T : List (Addr × Str)} {c P : Addr} {k : Nat} {e : Expr} {te : TE} {a : Str} {params : Arguments} {scope : Scope} {p pos lpos kpos p1 p2 p3 p4 p5 p6 p7 p8 p9 p10 p11 p12 p13 p14 p15 : Pos} {c1 c2 c3 c4 k5 : Nat}
    (hr : Room k X.A) (hcalm : X.calm = true) (TB : TabB X.base X.mg c P) (hcode : X.env.code = .ref c) (hmT : (P, X.env.qual ++ "<lambda>") ∈ T) (hu : ∀ p ∈ T, p.1 = P → p.2 = X.env.qual ++ "<lambda>")
    (hg : Gl X "sorted") (hmS : X.mg "sorted" = none) (hmL : X.mg "len" = none) (he : PE X e te)
    (hk : scope.kind = .function := by rfl) (hcoR : scope.isCoroutine = false := by rfl) (hgen : scope.isGenerator = false := by rfl) (hcell : ∀ y ∈ scope.names, y.2 ≠ .cell ∧ y.2 ≠ .free := by decide) (hl : scope.names.lookup a = some .local := by rfl)
    (hlen : scope.names.lookup ("len" : Str) = some .globalImplicit := by rfl) (hd : (a == ("__debug__" : Str)) = false := by decide) (hdef : defaultsOf params X.env = ([], []) := by rfl)
    (hbind : ∀ (q : Str) (cl : List (Str × Addr)) (pm cv ctv v : Value), bindArgs (PySem.W.kla_fn "<lambda>" q params (bodyP a p1 p2 p3 p4 p5 p6 p7 p8 p9 p10 p11 p12 p13 p14 p15 c1 c2 c3 c4 k5) scope cl pm cv ctv) ⟨[v], []⟩ = pure [(a, v)] := by intros; rfl)
    (hs : backTo pos (starEach [e] X.env) = (false, eval e X.env) :: backTo pos (starEach [] X.env) := by rfl) :
    PE X (.Call (.Name "sorted" p) [e] [⟨some "key", .Lambda params (bodyP a p1 p2 p3 p4 p5 p6 p7 p8 p9 p10 p11 p12 p13 p14 p15 c1 c2 c3 c4 k5) scope lpos, kpos⟩] pos) (tSortP T te) := by
  refine ⟨fun pins s σ H Q I h => ?_⟩
  refine wpAny_Call_Name_kw (ld_blt I hg hmS boot_sorted ?_)
  refine PyProof.Rows.callWith_kw ?_ hs (by rw [hs] <;> rfl) (by rfl) (by rfl)
  rw [hs]
  refine Calls.spliced_cons (thn (he.run pins s σ H _ I h) fun u s1 ⟨v, H1, I1, r1, q1⟩ => ?_)
  obtain ⟨l, kvs, ps, rfl, hl1, hx, hz, hT, q⟩ := q1
  obtain rfl : u = Value.ref l := r1
  refine args_nil ?_
  refine kws_cons (lam_make2 I1 TB hcode hmT hu hT hdef (fun y hy z => absurd z (hcell y hy).2) fun f c' pm' ctv H2 s2 I2 eN T2 hf hfn hfr hco => ?_)
  refine kws_nil ?_
  have hl2 : H2 l = some (.dT kvs) := eN _ _ hl1 fun ps z => by cases z
  obtain ⟨z, hsm, ks, pr, o, es, ep, ho, hx2, hdt, hent, hn⟩ := I2.hok l _ hl2
  have l1 : es.size = ks.length := size_of_entries hent
  have l2 : kvs.length = ks.length := Paired.length pr
  have pP := kt_keys pr hx
  have lk : (ks.map fun x => x.2.1).length = ps.length := Paired.length pP
  have lps : ps.length = ks.length := by rw [← lk, List.length_map]
  generalize hbs : (ks.map fun x => x.2.1) = bs at pP lk
  refine sorted_of_src (kw := [(Str.ofString "key", .ref f)]) (kdl_raw hsm hx2 hdt) (I2.ok.hd hcalm) ho (by omega) (PyProof.Rows.ksk_s1 _ _) (fun _ => PyProof.Rows.ksk_l1 _ _) fun E' h' tk vs kp hsz lv hv => ?_
  have ev : vs = bs.map Value.ref := by
    rw [← hbs, List.map_map]
    apply List.ext_getElem?
    intro j
    rw [List.getElem?_map]
    cases hj : vs[j]? with
    | none =>
      have h1 := List.getElem?_eq_none_iff.mp hj
      rw [List.getElem?_eq_none (by omega)]
      rfl
    | some v =>
      obtain ⟨en, hen, hv2⟩ := hv j v hj
      have qe := entry_at hent j
      rw [hen] at qe
      cases hb : ks[j]? with
      | none =>
        rw [hb] at qe
        exact nomatch (show some en = none from qe)
      | some b =>
        rw [hb] at qe
        have e2 : en = entryOfKey (tupleKind (mixKind X.prog X.w)) b := Option.some.inj qe
        rw [hv2, e2]
        rfl
  subst ev
  have lz : (bs.zip ps).length = ps.length := by rw [List.length_zip, lk, Nat.min_self]
  rw [PyProof.Rows.ksk_t1]
  refine PySem.W.keyH_tree (kz := (bs.zip ps).map fun z => p3D z.2) (vs := bs.map Value.ref) (s := { s2 with heap := h'.push (PyProof.Rows.seqObj "list" (bs.map Value.ref).toArray 0), toks := tk }) (n := 0) (Heap.get?_push_size _ rfl) ?_ ?_ (PySem.W.AllAlike.of fun b b' => by rfl) (PySem.W.Sortable.tuples fun b => ⟨_, _, rfl⟩) (fun d hd => ?_)
    (PySem.W.keyH_turns (bs := bs.zip ps) (k := fun z => p3D z.2) (each_refs lk) fun v x hR hxm h2 tk2 kp2 => ?_) fun h3 tk3 out c3 kp3 hD ko => ⟨rfl, ?_⟩
  · rw [List.length_map, lz, List.length_map, lk]
  · rw [List.length_map, lk]; omega
  · obtain ⟨b, _, rfl⟩ := List.mem_map.mp hd
    have : (p3D b.2).depth = 1 := by simp [p3D, PyData.depth, PyData.depthAll]
    have := hr.un
    show X.A.in1.in1.units + _ < cLine
    show X.A.units + 1 + 1 + _ < cLine
    omega
  · subst hR
    have hb := paired_zip pP x hxm
    exact plkey_call (s := s2) I2 hmL hf hco hbind hk hcoR hgen (fun y hy => (hcell y hy).1) hl hlen hd hr.depth (hz x.2 (List.of_mem_zip hxm).2) hb fun b o eb => kp2 b o (Nat.ne_of_lt (Heap.lt_size (kp b o eb))) (Heap.get?_push_of_some _ (kp b o eb))
  · have eo := PySem.W.keyedOut_each (fun (z : Addr × P3) => p3D z.2) ko (each_refs lk)
    have hn2 : H2 h'.objs.size = none := I2.hok.fresh hsz
    have kept : ∀ b o, s2.heap.get? b = some o → h3.get? b = some o := fun b o eb => kp3 b o (Nat.ne_of_lt (Heap.lt_size (kp b o eb))) (Heap.get?_push_of_some _ (kp b o eb))
    have hll : (sortedP bs ps).length ≤ sizeLine := by
      unfold sortedP
      rw [List.length_map, List.length_mergeSort, lz]
      omega
    exact ⟨.ref _, upd H2 h'.objs.size (.lst (sortedP bs ps)), I2.laid (t' := tk3) kept hsz ⟨hll, out, c3, vals_refsP eo, hD⟩, rfl, q _ _ _ eN T2 pP hn2⟩
end
end Ver
set_option Elab.async false
set_option linter.all false
set_option maxRecDepth 100000
set_option maxHeartbeats 2000000
namespace K58
open PySem PySem.Spec PyProof.Rows L2 Ver LamX
def numF : List Pl → Nat → List (List L2.Key × V)
  | [], _ => []
  | p :: r, n => (plKey p, .int (n : Nat)) :: numF r (n + 1)
theorem numF_len : ∀ (l : List Pl) (n : Nat), (numF l n).length = l.length
  | [], _ => rfl
  | _ :: r, n => by show (numF r (n + 1)).length + 1 = r.length + 1; rw [numF_len r]
theorem numF_keys : ∀ (l : List Pl) (n : Nat), (numF l n).map (·.1) = l.map plKey
  | [], _ => rfl
  | p :: r, n => by show plKey p :: (numF r (n + 1)).map (·.1) = plKey p :: r.map plKey; rw [numF_keys r]
theorem numF_snoc (p : Pl) : ∀ (l : List Pl) (n : Nat), numF (l ++ [p]) n = numF l n ++ [(plKey p, .int ((n + l.length : Nat) : Int))]
  | [], n => rfl
  | q :: l, n => by
    have ih := numF_snoc p l (n + 1)
    show (plKey q, V.int (n : Nat)) :: numF (l ++ [p]) (n + 1) = (plKey q, V.int (n : Nat)) :: numF l (n + 1) ++ [(plKey p, V.int ((n + (l.length + 1) : Nat) : Int))]
    rw [ih, show n + 1 + l.length = n + (l.length + 1) by omega]
    rfl
theorem idx_cons_ne {p q : Pl} {l : List Pl} (h : ¬ p = q) : (p :: l).idxOf q = l.idxOf q + 1 := by
  rw [List.idxOf_cons]
  have e : (p == q) = false := beq_eq_false_iff_ne.mpr h
  rw [e]
  rfl
theorem numF_get {q : Pl} : ∀ {l : List Pl} {n : Nat}, q ∈ l → valV (numF l n) (plKey q) = some (.int ((n + l.idxOf q : Nat) : Int))
  | [], _, h => by cases h
  | p :: l, n, h => by
    by_cases e : p = q
    · subst e
      rw [List.idxOf_cons_self]
      exact valV_pos rfl
    · have h1 : valV (numF (p :: l) n) (plKey q) = valV (numF l (n + 1)) (plKey q) := valV_neg (fun z => e (plKey_inj z))
      rw [h1, numF_get ((List.mem_cons.mp h).resolve_left fun z => e z.symm), idx_cons_ne e]
      congr 2
      omega
def finsN (T : Ta) (P : List Pl) (n : Nat) : List Nat := (List.range n).filter fun k => match P[k]? with | some p => finalP T p | none => false
theorem finsN_succ {T : Ta} {P : List Pl} {n : Nat} {p : Pl} (h : P[n]? = some p) : finsN T P (n + 1) = finsN T P n ++ (if finalP T p = true then [n] else []) := by
  unfold finsN
  rw [List.range_succ, List.filter_append]
  congr 1
  by_cases c : finalP T p = true
  · rw [if_pos c]; simp [h, c]
  · rw [if_neg c]; simp [h, c]
theorem finsN_len (T : Ta) (P : List Pl) (n : Nat) : (finsN T P n).length ≤ n := by
  unfold finsN
  refine Nat.le_trans (List.length_filter_le _ _) ?_
  rw [List.length_range]
  exact Nat.le_refl n
theorem finsN_all (T : Ta) (P : List Pl) : finsN T P P.length = finsOf T P := rfl
theorem zip_map_r {α β γ : Type} (f : β → γ) : ∀ (as : List α) (bs : List β), as.zip (bs.map f) = (as.zip bs).map fun z => (z.1, f z.2)
  | [], _ => rfl
  | _ :: _, [] => rfl
  | a :: as, b :: bs => by
    show (a, f b) :: as.zip (bs.map f) = (a, f b) :: (as.zip bs).map _
    rw [zip_map_r f as bs]
theorem zip_snd' {α β : Type} : ∀ {xs : List α} {ds : List β}, xs.length = ds.length → (xs.zip ds).map Prod.snd = ds
  | [], [], _ => rfl
  | [], _ :: _, h => by cases h
  | _ :: _, [], h => by cases h
  | _ :: xs, d :: ds, h => by
    show d :: (xs.zip ds).map Prod.snd = d :: ds
    rw [zip_snd' (Nat.succ.inj h)]
theorem paired_of_zip {α β : Type} {R : α → β → Prop} {γ : Type} {f : γ → α} {g : γ → β} : ∀ {zs : List γ}, (∀ z ∈ zs, R (f z) (g z)) → Paired R (zs.map f) (zs.map g)
  | [], _ => .nil
  | z :: zs, h => .cons (h z List.mem_cons_self) (paired_of_zip fun y hy => h y (List.mem_cons_of_mem _ hy))
theorem srt_paired {α β : Type} {R : V → β → Prop} {f : α → V} {enc : β → PyData} {as : List α} {bs : List β} (hl : as.length = bs.length) (h : ∀ z ∈ as.zip bs, R (f z.1) z.2) :
    Paired R (((as.zip bs).mergeSort (PySem.W.dataLe false fun z => enc z.2)).map fun z => f z.1) (bs.mergeSort (PySem.W.dataLe false enc)) := by
  have e : bs.mergeSort (PySem.W.dataLe false enc) = ((as.zip bs).mergeSort (PySem.W.dataLe false fun z => enc z.2)).map Prod.snd := by
    have h1 := List.map_mergeSort (r := PySem.W.dataLe false fun z : α × β => enc z.2) (s := PySem.W.dataLe false enc) (f := Prod.snd) (l := as.zip bs) (fun a _ b _ => rfl)
    rw [zip_snd' hl] at h1
    exact h1.symm
  rw [e]
  exact paired_of_zip fun z hz => h z ((List.mergeSort_perm _ _).mem_iff.mp hz)
def A4At (H : Hp) (v : V) (a : A4) : Prop := ∃ q, v = .ref q ∧ H q = some (.tup [.int (a.k : Nat), .str a.l, .int (a.j : Nat), .int a.t])
theorem a4_keep {H H' : Hp} (e : ∀ b xs, H b = some (.tup xs) → H' b = some (.tup xs)) : ∀ {vs : List V} {as : List A4}, Paired (A4At H) vs as → Paired (A4At H') vs as
  | _, _, .nil => .nil
  | _, _, .cons ⟨q, h1, h2⟩ t => .cons ⟨q, h1, e _ _ h2⟩ (a4_keep e t)
theorem a4_data {K : PySem.W.Frag} {H : Hp} : ∀ {vs : List V} {as : List A4}, Paired (A4At H) vs as → DpAll K H vs (as.map a4D)
  | _, _, .nil => .nil
  | _, _, .cons ⟨q, h1, h2⟩ t => by
    subst h1
    exact .cons (.tup (.inl (.inl h2)) (.cons (.int _) (.cons (.str _) (.cons (.int _) (.cons (.int _) .nil))))) (a4_data t)
theorem pls_data {K : PySem.W.Frag} {H : Hp} : ∀ {vs : List V} {ps : List Pl}, Paired (PlAt H) vs ps → DpAll K H vs (ps.map plD)
  | _, _, .nil => .nil
  | _, _, .cons ⟨r, h1, h2⟩ t => by
    subst h1
    exact .cons (.tup (.inl (.inl h2)) (.cons (.int _) (.cons (.int _) (.cons (.str _) .nil)))) (pls_data t)
theorem pls_get {H : Hp} : ∀ {vs : List V} {es : List Pl} {i : Nat} {v : V} {e : Pl}, Paired (PlAt H) vs es → vs[i]? = some v → es[i]? = some e → PlAt H v e
  | _, _, i, _, _, .nil, h, _ => by simp at h
  | _, _, 0, _, _, .cons h1 _, h, k => by
    rw [← Option.some.inj h, ← Option.some.inj k]
    exact h1
  | _, _, i + 1, _, _, .cons _ t, h, k => pls_get (i := i) t h k
def toA4 (P : List Pl) (k : Nat) (a : Ar) : A4 := ⟨k, a.l, P.idxOf a.to, a.t⟩
theorem idx_get {P : List Pl} {q : Pl} (h : q ∈ P) : P[P.idxOf q]? = some q := by
  have lt := List.idxOf_lt_length_of_mem h
  rw [List.getElem?_eq_getElem lt, List.getElem_idxOf lt]
theorem idx_of_get {P : List Pl} (nd : P.Nodup) {j : Nat} {q : Pl} (h : P[j]? = some q) : P.idxOf q = j := by
  have lt := (List.getElem?_eq_some_iff.mp h).1
  have m := List.mem_of_getElem? h
  have lt2 := List.idxOf_lt_length_of_mem m
  exact (List.getElem?_inj (h₀ := lt2) nd (i := P.idxOf q) (j := j)).mp ((idx_get m).trans h.symm)
theorem toA4_inj {P : List Pl} {k : Nat} {a b : Ar} (ha : a.to ∈ P) (hb : b.to ∈ P) (h : toA4 P k a = toA4 P k b) : a = b := by
  obtain ⟨l, to, t⟩ := a
  obtain ⟨l', to', t'⟩ := b
  injection h with h1 h2 h3 h4
  have h2 : l = l' := h2
  have h4 : t = t' := h4
  have e : some to = some to' := by rw [← idx_get ha, ← idx_get hb]; exact congrArg _ h3
  rw [h2, h4, Option.some.inj e]
theorem nodup_map_on {α β : Type} {f : α → β} : ∀ {l : List α}, (∀ a ∈ l, ∀ b ∈ l, f a = f b → a = b) → l.Nodup → (l.map f).Nodup
  | [], _, _ => List.nodup_nil
  | x :: l, h, nd => by
    obtain ⟨n1, n2⟩ := List.nodup_cons.mp nd
    rw [List.map_cons]
    refine List.nodup_cons.mpr ⟨fun m => ?_, nodup_map_on (fun a ha b hb => h a (List.mem_cons_of_mem _ ha) b (List.mem_cons_of_mem _ hb)) n2⟩
    obtain ⟨y, hy, e⟩ := List.mem_map.mp m
    rw [h y (List.mem_cons_of_mem _ hy) x List.mem_cons_self e] at hy
    exact n1 hy
theorem a4_step {T : Ta} {P : List Pl} (hp : IsPs T P) {k : Nat} {p : Pl} (ep : P[k]? = some p) {as : List Ar} (nda : as.Nodup) (ma : ∀ a, a ∈ as ↔ IsArc T p a) {A : List A4} (nd : A.Nodup) (mem : ∀ a, a ∈ A ↔ a.k < k ∧ IsA4 T P a) :
    (A ++ as.map (toA4 P k)).Nodup ∧ ∀ a, a ∈ A ++ as.map (toA4 P k) ↔ a.k < k + 1 ∧ IsA4 T P a := by
  have inP : ∀ a ∈ as, a.to ∈ P := fun a ha => (hp.mem _).mpr (.step ((hp.mem p).mp (List.mem_of_getElem? ep)) ((ma a).mp ha))
  constructor
  · refine List.nodup_append.mpr ⟨nd, nodup_map_on (fun a ha b hb e => toA4_inj (inP a ha) (inP b hb) e) nda, fun x hx y hy e => ?_⟩
    obtain ⟨a, _, rfl⟩ := List.mem_map.mp hy
    have := ((mem x).mp hx).1
    rw [e] at this
    exact Nat.lt_irrefl _ this
  · intro a
    rw [List.mem_append, mem]
    constructor
    · rintro (⟨h1, h2⟩ | h)
      · exact ⟨by omega, h2⟩
      · obtain ⟨r, hr, rfl⟩ := List.mem_map.mp h
        exact ⟨Nat.lt_succ_self _, p, r, ep, (ma r).mp hr, idx_get (inP r hr), rfl, rfl⟩
    · rintro ⟨h1, h2⟩
      rcases Nat.lt_or_eq_of_le (Nat.le_of_lt_succ h1) with c | c
      · exact .inl ⟨c, h2⟩
      · refine .inr ?_
        obtain ⟨p', r, e1, e2, e3, e4, e5⟩ := h2
        rw [c, ep] at e1
        have e1 := Option.some.inj e1
        subst e1
        refine List.mem_map.mpr ⟨r, (ma r).mpr e2, ?_⟩
        obtain ⟨ak, al, aj, at'⟩ := a
        show A4.mk k r.l (P.idxOf r.to) r.t = ⟨ak, al, aj, at'⟩
        rw [idx_of_get hp.nd e3]
        have c : ak = k := c
        have e4 : al = r.l := e4
        have e5 : at' = r.t := e5
        rw [c, e4, e5]
end K58
set_option Elab.async false
set_option linter.all false
set_option maxRecDepth 100000
set_option maxHeartbeats 2000000
namespace K58
open PySem PySem.Spec PyProof.Rows L2 Ver LamX
theorem inV_ints (b : Int) : ∀ l : List Int, inV (.int b) (l.map V.int) = decide (b ∈ l)
  | [] => rfl
  | x :: l => by
    have ih := inV_ints b l
    show (eqV (.int x) (.int b) || inV (.int b) (l.map V.int)) = _
    rw [ih]
    have e1 : eqV (.int x) (.int b) = decide (x = b) := rfl
    rw [e1]
    by_cases h : x = b
    · subst h; simp
    · have h' : ¬ b = x := fun q => h q.symm
      rw [decide_eq_false h, Bool.false_or]
      simp [h']
theorem flat_ints' : ∀ r : List Int, (r.map V.int).all flatV = true
  | [] => rfl
  | _ :: r => flat_ints' r
section
variable {P : Program} {w : World} {K : PySem.W.Frag} {mg : Str → Option Value} {base : Heap}
def sp__is_final (K : PySem.W.Frag) : Sp := fun vs H Q _ => ∃ (pa a : Addr) (T : Ta) (p : Pl), vs = [.ref pa, .ref a, .str T.g] ∧ H pa = some (.tup (plV p)) ∧ BkAt K H a T.bk ∧ T.g.length ≤ 1000 ∧ Q (.bl (finalP T p)) H
theorem ok__is_final (T : Tx K mg) : FnOk P w K mg base CX0 1 T.f__is_final T.d__is_final ["place", "book", "begun"] (sp__is_final K) := by
  refine T.F__is_final.ok sc__is_final (fun vs H Q E h => ?_) (fun cdv A outer s H vs Q E hr h => ?_)
  · obtain ⟨pa, a, T, p, rfl, _⟩ := h; rfl
  · obtain ⟨pa, a, Ta, p, rfl, hpa, hB, hg, q⟩ := h
    refine ⟨_, (pss_cons (ps_asg (pv 0) (pg_tup (by rfl) (pgs_cons (pg_name (i := 3) sc__is_final.nd rfl (Or.inl rfl)) (pgs_cons (pg_name (i := 4) sc__is_final.nd rfl (Or.inl rfl)) (pgs_cons (pg_name (i := 5) sc__is_final.nd rfl (Or.inl rfl)) pgs_nil)))))
    (pss_one (ps_ret (pe_and (pe_cmpR op_eq (pv 3) (pe_callB call_len_str (by rfl) T.n_len (by decide +kernel) (pa_cons (pv 2) pa_nil)) (nomark _)) (pe_and (pe_cmpR op_eq (pv 5) pe_str (nomark _)) (pe_one (pe_cmpR op_in_seq (pv 4) (pe_ix ix_tup (pv 1) pe_int (fun _ _ => rfl)) (by rfl)))))))), ?_⟩
    obtain ⟨f, t, tv, h1, h2, h3, h4⟩ := hB
    refine ⟨.ref pa, rfl, pa, _, rfl, .inl (.inl hpa), rfl, .int (p.i : Nat), _, rfl, .int p.b, _, rfl, .str p.u, _, rfl, rfl, ?_⟩
    have l1 : decide (V.int (p.i : Nat) = V.int (Ta.g.length : Nat)) = decide (p.i = Ta.g.length) := by
      by_cases c : p.i = Ta.g.length
      · rw [decide_eq_true c, decide_eq_true (by rw [c])]
      · rw [decide_eq_false c, decide_eq_false (fun e => c (by injection e with e; omega))]
    have l2 : decide (V.str p.u = V.str "") = decide (p.u = "") := by
      by_cases c : p.u = ""
      · rw [decide_eq_true c, decide_eq_true (by rw [c])]
      · rw [decide_eq_false c, decide_eq_false (fun e => c (V.str.inj e))]
    have eq : finalP Ta p = (decide (p.i = Ta.g.length) && decide (p.u = "") && decide (p.b ∈ Ta.fin)) := rfl
    rw [eq] at q
    refine ⟨.int (p.i : Nat), rfl, .str Ta.g, rfl, Ta.g, rfl, small' (by omega), rfl, _, rfl, ?_⟩
    rw [l1]
    generalize decide (p.i = Ta.g.length) = b1 at q ⊢
    cases b1 with
    | false => exact if_ff q
    | true =>
      refine if_tt ?_
      refine ⟨.str p.u, rfl, rfl, _, rfl, ?_⟩
      rw [l2]
      generalize decide (p.u = "") = b2 at q ⊢
      cases b2 with
      | false => exact if_ff q
      | true =>
        refine if_tt ?_
        refine ⟨.int p.b, rfl, .ref a, rfl, a, _, 1, .ref f, rfl, rfl, h1, rfl, f, _, rfl, .inr h2, rfl, flat_ints' _, ?_⟩
        rw [inV_ints]
        exact q
theorem yes_on {σ : L2.St} {H : Hp} {A B : Hp → Prop} (h : A H) : tYes σ H fun b H3 => if b = true then A H3 else B H3 := by
  show (if true = true then A H else B H)
  rw [if_pos rfl]
  exact h
theorem paired_app {α β : Type} {R : α → β → Prop} : ∀ {as : List α} {bs : List β} {cs : List α} {ds : List β}, Paired R as bs → Paired R cs ds → Paired R (as ++ cs) (bs ++ ds)
  | _, _, _, _, .nil, h => h
  | _, _, _, _, .cons h1 t, h => .cons h1 (paired_app t h)
theorem dp_fins {K : PySem.W.Frag} {H : Hp} : ∀ l : List Nat, DpAll K H (l.map fun k => V.int (k : Nat)) (l.map fun k => PyData.int (k : Nat))
  | [] => .nil
  | k :: l => .cons (.int _) (dp_fins l)
def pl3 (p : Pl) : P3 := ((p.i : Int), p.b, p.u)
def SpAt (H : Hp) (v : V) (T : Ta) (P : List Pl) (A : List A4) : Prop := ∃ q p f a vp va, v = .ref q ∧ H q = some (.tup [.ref p, .ref f, .ref a]) ∧ H p = some (.tup vp) ∧ Paired (PlAt H) vp P ∧ H f = some (.tup ((finsOf T P).map fun k => V.int (k : Nat))) ∧ H a = some (.tup va) ∧ Paired (A4At H) va A
def sp_speller (K : PySem.W.Frag) (TS : List (Addr × Str)) : Sp := fun vs H Q _ => ∃ (t a : Addr) (T : Ta), vs = [.ref t, .ref a, .str T.g, .str (modeS T.hl)] ∧ SqT K H t (T.ts.map V.str) ∧ BkAt K H a T.bk ∧ T.Ok ∧ T.most ≤ 20000 ∧ Tabs TS H ∧
  ∀ (v : V) (H2 : Hp) (P : List Pl) (A : List A4), ExtN H H2 → Tabs TS H2 → IsPs T P → IsAs T P A → P.length ≤ 20000 → A.length ≤ 2400000 → Dp K H2 v (spD T P A) → SpAt H2 v T P A → Q v H2
theorem ok_speller {cc cP cd cS : Addr} (T : Tx K mg) (TB : Tb T base cc cP cd cS) : FnOk P w K mg base CX0 5 T.f_speller T.d_speller ["tokens", "book", "begun", "mode"] (sp_speller K (TT cP cS)) := by
  refine Fun.okC T.F_speller TB.code2 sc_speller (fun vs H Q E h => ?_) (fun A outer s H vs Q E hr h => ?_)
  · obtain ⟨t, a, T, rfl, _⟩ := h; rfl
  · obtain ⟨t, a, Ta, rfl, hT, hB, ok, hm, hTb, q⟩ := h
    refine ⟨_, (pss_cons (ps_set (i := 4) sc_speller.nd rfl (Or.inl rfl) (pe_call (ok__places_and_arcs T TB) hr rfl T.g__places_and_arcs T.F__places_and_arcs.kp T.b__places_and_arcs .nil pass0 (pa_cons (pv 0) (pa_cons (pv 1) (pa_cons (pv 2) (pa_cons (pv 3) pa_nil))))))
    (pss_cons (ps_set (i := 5) sc_speller.nd rfl (Or.inl rfl) (pe_sortP (T := TT cP cS) hr rfl TB.tab2 rfl (List.mem_cons_of_mem _ List.mem_cons_self) (fun p hp e => by rcases List.mem_cons.mp hp with z | z; rw [z] at e; exact absurd e TB.ne; rw [List.mem_singleton.mp z] <;> rfl) (by rfl) T.n_sorted T.n_len (pv 4)))
    (pss_cons (ps_set (i := 6) sc_speller.nd rfl (Or.inr rfl) (pe_dcT (own := [("k", 10), ("place", 11)]) (g := _) (Nat.lt_of_succ_lt (hu_of hr)) rfl sc_speller.nd (pi_enum (by rfl) T.n_enumerate (pa_cons (pv 5) pa_nil)) (blkOk_by (N := ["tokens", "book", "begun", "mode", "known", "places", "numbers", "finals", "arcs", "here", "k", "place", "letter", "there", "token"]) (sc := defScope s_speller) (by decide +kernel)) (fun _ _ _ _ _ => (Ver.pg_tupK (K := K) (n := 2) rfl rfl rfl rfl (pgs_cons (pg_name (i := 10) sc_speller.nd rfl (Or.inl rfl)) (pgs_cons (pg_name (i := 11) sc_speller.nd rfl (Or.inl rfl)) pgs_nil)))) (fun _ _ _ _ _ => (pv 11)) (fun _ _ _ _ _ => (pv 10))))
    (pss_cons (ps_setLc (i := 7) (own := [("place", 11)]) (g := gName 11) (tt := _) (by rfl) sc_speller.nd rfl rfl (sw_true rfl rfl rfl (by decide +kernel)) (pi_list (pv 5)) (blkOk_by (N := ["tokens", "book", "begun", "mode", "known", "places", "numbers", "finals", "arcs", "here", "k", "place", "letter", "there", "token"]) (sc := defScope s_speller) (by decide +kernel)) (fun _ _ _ _ _ => (pg_name (i := 11) sc_speller.nd rfl (Or.inl rfl))) (fun _ _ _ _ _ => (pts_one (pt_val (pe_call (ok__is_final T) (hr.mono (by decide)) rfl T.g__is_final T.F__is_final.kp T.b__is_final .nil pass0 (pa_cons (pv 11) (pa_cons (pv 1) (pa_cons (pv 2) pa_nil))))))) (fun _ _ _ _ _ => (pe_dget (hu_of hr) (pv 6) (pv 11) (fun _ _ => rfl))))
    (pss_cons (ps_set (i := 8) sc_speller.nd rfl (Or.inl rfl) (pe_lst pa_nil))
    (pss_cons (ps_for PassesOwn.never rfl (pi_list (pv 5)) (pg_name (i := 9) sc_speller.nd rfl (Or.inr rfl))
    (pss_one (ps_expr (pe_bm PySem.F.plainAttrs_list PySem.F.slot_list_extend PySem.F.type_list_extend mt_extend (pv 8) (pa_cons (pe_lc (own := [("letter", 12), ("there", 13), ("token", 14)]) (g := _) (tt := tYes) (by rfl) sc_speller.nd (pi_list (pe_dget (hu_of hr) (pv 4) (pv 9) (fun _ _ => rfl))) (blkOk_by (N := ["tokens", "book", "begun", "mode", "known", "places", "numbers", "finals", "arcs", "here", "k", "place", "letter", "there", "token"]) (sc := defScope s_speller) (by decide +kernel)) (fun _ _ _ _ _ => (Ver.pg_tupK (K := K) (n := 3) rfl rfl rfl rfl (pgs_cons (pg_name (i := 12) sc_speller.nd rfl (Or.inl rfl)) (pgs_cons (pg_name (i := 13) sc_speller.nd rfl (Or.inl rfl)) (pgs_cons (pg_name (i := 14) sc_speller.nd rfl (Or.inl rfl)) pgs_nil))))) (fun _ _ _ _ _ => pts_nil) (fun _ _ _ _ _ => (pe_tup (pa_cons (pe_dget (hu_of hr) (pv 6) (pv 9) (fun _ _ => rfl)) (pa_cons (pv 12) (pa_cons (pe_dget (hu_of hr) (pv 6) (pv 13) (fun _ _ => rfl)) (pa_cons (pv 14) pa_nil))))))) pa_nil)))))
    (pss_one (ps_ret (pe_tup (pa_cons (pe_callTy call_tuple_of (by rfl) T.n_tuple (by decide +kernel) (pa_cons (pv 5) pa_nil)) (pa_cons (pe_callTy call_tuple_of (by rfl) T.n_tuple (by decide +kernel) (pa_cons (pv 7) pa_nil)) (pa_cons (pe_callTy call_tuple_of (by rfl) T.n_tuple (by decide +kernel) (pa_cons (pe_callB (cr_sortDt hr) (by rfl) T.n_sorted (by decide +kernel) (pa_cons (pv 8) pa_nil)) pa_nil)) pa_nil)))))))))))), ?_⟩
    refine ⟨.ref t, rfl, .ref a, rfl, .str Ta.g, rfl, .str (modeS Ta.hl), rfl, t, a, Ta, rfl, hT, hB, ok, hm, hTb, fun H1 D L e1 t1 nd mem hD => ?_⟩
    obtain ⟨kvs, hD1, ek, hk⟩ := hD
    have hB1 : BkAt K H1 a Ta.bk := by
      obtain ⟨f, t, tv, h1, h2, h3, h4⟩ := hB
      exact ⟨f, t, tv, seqT_ext e1 h1, seqT_ext e1 h2, seqT_ext e1 h3, rows_keep (fun b xs e => e1 _ _ e fun ps z => by cases z) h4⟩
    have lL : L.length ≤ 20000 := Nat.le_trans (few_places nd fun p hp => reach_in ok ((mem p).mp hp)) hm
    have uL : ∀ p ∈ L, p.u.length ≤ 100 := fun p hp => by
      obtain ⟨t9, ht, k, hk, e9⟩ := (reach_in ok ((mem p).mp hp)).2.2.2
      rw [e9, takeS_len (by omega)]
      have := (ok.len _ ht).2
      omega
    refine ⟨.ref D, rfl, D, kvs, L.map pl3, rfl, hD1, by rw [ek, List.map_map]; rfl, fun z hz => ?_, t1, fun H2 bs Pa e2 t2 pb nPa => ?_⟩
    · obtain ⟨p, hp, rfl⟩ := List.mem_map.mp hz
      exact small' (Nat.le_trans (uL p hp) (by decide))
    have ips := ps_of nd mem
    have lbs : bs.length = L.length := by have := Paired.length pb; rw [List.length_map] at this; exact this
    have pbs : Paired (PlAt H2) (sortedP bs (L.map pl3)) (L.mergeSort lePl) := by
      have h1 := srt_paired (R := PlAt H2) (f := V.ref) (enc := plK) (as := bs) (bs := L) lbs (fun z hz => ⟨z.1, rfl, ?_⟩)
      · have e9 : sortedP bs (L.map pl3) = ((bs.zip L).mergeSort (PySem.W.dataLe false fun z => plK z.2)).map fun z => V.ref z.1 := by
          unfold sortedP
          rw [zip_map_r]
          have h2 := List.map_mergeSort (r := PySem.W.dataLe false fun z : Addr × Pl => plK z.2) (s := PySem.W.dataLe false fun z : Addr × P3 => p3D z.2) (f := fun z : Addr × Pl => (z.1, pl3 z.2)) (l := bs.zip L) (fun a _ b _ => rfl)
          rw [← h2, List.map_map]
          rfl
        rw [e9]
        exact h1
      · have hz2 : (z.1, pl3 z.2) ∈ bs.zip (L.map pl3) := by
          rw [zip_map_r]
          exact List.mem_map.mpr ⟨z, hz, rfl⟩
        exact paired_zip pb _ hz2
    generalize sortedP bs (L.map pl3) = vp at pbs
    have hlP : (L.mergeSort lePl).length = L.length := List.length_mergeSort ..
    generalize L.mergeSort lePl = Ps at ips pbs hlP
    have memL : ∀ p, p ∈ Ps ↔ p ∈ L := fun p => (ips.mem p).trans (mem p).symm
    have lvp : vp.length = Ps.length := Paired.length pbs
    have sPa := same_new (o := .lst vp) nPa
    have hPa : (upd H2 Pa (.lst vp)) Pa = some (.lst vp) := upd_same
    have hB2 : BkAt K H2 a Ta.bk := by
      obtain ⟨f, t, tv, h1, h2, h3, h4⟩ := hB1
      exact ⟨f, t, tv, seqT_ext e2 h1, seqT_ext e2 h2, seqT_ext e2 h3, rows_keep (fun b xs e => e2 _ _ e fun ps z => by cases z) h4⟩
    have e12 := e1.trans e2
    have hD2 : H2 D = some (.dT kvs) := e2 _ _ hD1 fun ps z => by cases z
    have hk2 : ∀ p ∈ L, ∃ l us as, valV kvs (plKey p) = some (.ref l) ∧ H2 l = some (.lst us) ∧ Paired (ArcAt H2) us as ∧ as.Nodup ∧ (∀ a, a ∈ as ↔ IsArc Ta p a) ∧ as.length ≤ 120 := fun p hp => by
      obtain ⟨l, us, as, x1, x2, x3, x4, x5, x6⟩ := hk p hp
      exact ⟨l, us, as, x1, e2 _ _ x2 (fun ps z => by cases z), arcs_keep (fun b xs e => e2 _ _ e fun ps z => by cases z) x3, x4, x5, x6⟩
    have pb3 := pls_keep (fun b xs e => sPa _ _ e) pbs
    generalize upd H2 Pa (.lst vp) = H3 at sPa hPa pb3 ⊢
    refine ⟨.ref Pa, rfl, Pa, vp, rfl, .inl (.inl hPa), fun Nu nNu => ?_⟩
    refine dcT_it (walk_enum (K := K) (a := Pa) (xs := vp)) (fun i H' => Same H3 H' ∧ H' Nu = some (.dT (numF (Ps.take i) 0))) ⟨same_new nNu, upd_same⟩ (fun i H' _ h => .inl (.inl (h.1 _ _ hPa))) ?_ ?_
    · rintro i x H' H'' lt ⟨s4, hN4⟩ ⟨TT, x1, x2, rfl, nT, rfl, ex1, ex2⟩
      have ex1 : V.int (i : Nat) = x1 := Option.some.inj ex1
      subst ex1
      have ep : Ps[i]? = some (Ps[i]'(by omega)) := List.getElem?_eq_getElem _
      generalize Ps[i]'(by omega) = p at ep
      obtain ⟨r, rfl, hr3⟩ := pls_get pb3 ex2 ep
      have sT := same_new (o := .tup [V.int (i : Nat), V.ref r]) nT
      have hT1 : (upd H' TT (.tup [V.int (i : Nat), V.ref r])) TT = some (.tup [V.int (i : Nat), V.ref r]) := upd_same
      generalize upd H' TT (.tup [V.int (i : Nat), V.ref r]) = H5 at sT hT1 ⊢
      have lPs : Ps.length ≤ 20000 := by omega
      refine ⟨TT, _, rfl, .inl (.inl hT1), rfl, .int (i : Nat), _, rfl, .ref r, _, rfl, rfl, rfl, ?_⟩
      refine ⟨.ref r, rfl, .int (i : Nat), rfl, _, plKey p, r, rfl, sT _ _ (s4 _ _ hr3), sT _ _ hN4, big (by rw [numF_len, List.length_take]; omega), same_upd2 (s4.trans sT) nNu, ?_⟩
      have none1 : valV (numF (Ps.take i) 0) (plKey p) = none := none_of_isSome ((keys_none (numF_keys _ _)).trans (decide_eq_false (nodup_take ips.nd ep)))
      rw [upd_same, putK_new _ none1, take_snoc ep, numF_snoc, List.length_take, Nat.min_eq_left (by omega), Nat.zero_add]
    rintro H4 ⟨s4, hN4⟩
    rw [lvp, List.take_length] at hN4
    have lPs : Ps.length ≤ 20000 := by omega
    have gl := ok.gl
    have s24 := sPa.trans s4
    have hPa4 := s4 _ _ hPa
    have hB4 : BkAt K H4 a Ta.bk := hB2.grow s24
    have numG : ∀ H', Same H4 H' → ∀ p r, p ∈ Ps → H' r = some (.tup (plV p)) → DGet H' Nu (.ref r) (some (.int ((Ps.idxOf p : Nat) : Int))) := fun H' s p r hp hr => by
      have g := DGet.t (k := plKey p) (s _ _ hN4) hr
      rw [numF_get hp, Nat.zero_add] at g
      exact g
    refine ⟨.ref Pa, rfl, Pa, rfl, ⟨_, .inl (.inl hPa4)⟩, fun F nF => ?_⟩
    refine lc_list (K := K) (a := Pa) (xs := vp) (fun n H' => Same H4 H' ∧ H' F = some (.lst ((finsN Ta Ps n).map fun k => V.int (k : Nat)))) ⟨same_new nF, upd_same⟩ (fun n H' _ h => .inl (.inl (h.1 _ _ hPa4))) (fun n x H' ex h => ?_) (fun H5 h => ?_)
    · obtain ⟨s5, hF⟩ := h
      have ltn := (List.getElem?_eq_some_iff.mp ex).1
      have ep : Ps[n]? = some (Ps[n]'(by omega)) := List.getElem?_eq_getElem _
      generalize Ps[n]'(by omega) = p at ep
      obtain ⟨r, rfl, hr3⟩ := pls_get pb3 ex ep
      have hr5 := s5 _ _ (s4 _ _ hr3)
      refine ⟨wipe_one _ _ _, .ref r, rfl, .ref a, rfl, .str Ta.g, rfl, r, a, Ta, p, rfl, hr5, hB4.grow s5, by omega, finalP Ta p, rfl, ?_⟩
      rw [finsN_succ ep]
      refine ite2 (fun z => ?_) (fun z => ?_)
      · have g := numG _ s5 p r (List.mem_of_getElem? ep) hr5
        rw [idx_of_get ips.nd ep] at g
        have lf := finsN_len Ta Ps n
        refine ⟨.ref Nu, rfl, .ref r, rfl, Nu, _, rfl, g, _, hF, big (by rw [List.length_map]; omega), same_upd2 s5 nF, ?_⟩
        rw [upd_same, if_pos z, List.map_append]
        rfl
      · rw [if_neg z, List.append_nil]
        exact ⟨s5, hF⟩
    obtain ⟨s5, hF⟩ := h
    rw [lvp, finsN_all] at hF
    refine ⟨Nat.zero_le _, fun Ar nAr => ?_⟩
    have sAr := same_new (o := .lst []) nAr
    have hAr0 : (upd H5 Ar (.lst [])) Ar = some (.lst []) := upd_same
    generalize upd H5 Ar (.lst []) = H6 at sAr hAr0 ⊢
    refine ⟨.ref Pa, rfl, Pa, rfl, ⟨_, .inl (.inl (sAr _ _ (s5 _ _ hPa4)))⟩, ?_⟩
    have hPa5 := s5 _ _ hPa4
    have s25 := s24.trans s5
    refine for_list (K := K) (a := Pa) (xs := vp) (fun i σ H' => ∃ (A : List A4) (us : List V) (y9 : Option V), σ = [some (.ref t), some (.ref a), some (.str Ta.g), some (.str (modeS Ta.hl)), some (.ref D), some (.ref Pa), some (.ref Nu), some (.ref F), some (.ref Ar), y9, none, none, none, none, none] ∧ Same H5 H' ∧ H' Ar = some (.lst us) ∧ Paired (A4At H') us A ∧ A.Nodup ∧ (∀ x, x ∈ A ↔ x.k < i ∧ IsA4 Ta Ps x) ∧ A.length ≤ 120 * i)
      ⟨[], [], none, rfl, sAr, hAr0, .nil, List.nodup_nil, (fun x => ⟨(fun h => by cases h), fun h => absurd h.1 (Nat.not_lt_zero _)⟩), Nat.zero_le _⟩ (fun i σ H' _ h => ?_) (fun i x σ H' ex h => ?_) (fun σ H' h => ?_)
    · obtain ⟨_, _, _, _, s6, _⟩ := h
      exact .inl (.inl (s6 _ _ hPa5))
    · obtain ⟨A, us, y9, rfl, s6, hAr, hA, ndA, memA, lA⟩ := h
      have lti := (List.getElem?_eq_some_iff.mp ex).1
      have ep : Ps[i]? = some (Ps[i]'(by omega)) := List.getElem?_eq_getElem _
      generalize Ps[i]'(by omega) = p at ep
      have pP := List.mem_of_getElem? ep
      obtain ⟨r, rfl, hr3⟩ := pls_get pb3 ex ep
      have s26 := s25.trans s6
      have s46 := s5.trans s6
      have hr6 := s46 _ _ (s4 _ _ hr3)
      obtain ⟨l, ul, as, x1, x2, x3, x4, x5, x6⟩ := hk2 p ((memL p).mp pP)
      have gK := DGet.t (k := plKey p) (s26 _ _ hD2) hr6
      rw [x1] at gK
      have hl6 := s26 _ _ x2
      have has6 := arcs_keep (fun b xs e => s26 _ _ e) x3
      have lus : us.length = A.length := Paired.length hA
      refine ⟨.ref Ar, rfl, .inl ⟨rfl, _, .inl (.inl hAr)⟩, .ref D, rfl, .ref r, rfl, D, _, rfl, gK, l, rfl, ⟨_, .inl (.inl hl6)⟩, fun B nB => ?_⟩
      have lul : ul.length = as.length := Paired.length x3
      refine lc_list (K := K) (a := l) (xs := ul) (fun n H7 => Same H' H7 ∧ ∃ ub, H7 B = some (.lst ub) ∧ Paired (A4At H7) ub ((as.take n).map (toA4 Ps i))) ⟨same_new nB, [], upd_same, .nil⟩ (fun n H7 _ h => .inl (.inl (h.1 _ _ hl6))) (fun n x H7 ex h => ?_) (fun H7 h => ?_)
      · obtain ⟨s7, ub, hB7, hub⟩ := h
        have ltn := (List.getElem?_eq_some_iff.mp ex).1
        have ea : as[n]? = some (as[n]'(by omega)) := List.getElem?_eq_getElem _
        generalize as[n]'(by omega) = ar at ea
        obtain ⟨q0, r0, rfl, hq0, hr0⟩ := arcs_get (arcs_keep (fun b xs e => s7 _ _ e) has6) ex ea
        have toP : ar.to ∈ Ps := (ips.mem _).mpr (.step ((ips.mem p).mp pP) ((x5 ar).mp (List.mem_of_getElem? ea)))
        have s47 := s46.trans s7
        have g1 := numG _ s47 p r pP (s7 _ _ hr6)
        rw [idx_of_get ips.nd ep] at g1
        have g2 := numG _ s47 ar.to r0 toP hr0
        refine ⟨q0, _, rfl, .inl (.inl hq0), rfl, .str ar.l, _, rfl, .ref r0, _, rfl, .int ar.t, _, rfl, rfl, rfl, yes_on ?_⟩
        refine ⟨.ref Nu, rfl, .ref r, rfl, Nu, _, rfl, g1, .str ar.l, rfl, .ref Nu, rfl, .ref r0, rfl, Nu, _, rfl, g2, .int ar.t, rfl, small' (by simp), fun q9 nq9 => ?_⟩
        have sq := same_new (o := .tup [V.int (i : Nat), V.str ar.l, V.int (Ps.idxOf ar.to : Nat), V.int ar.t]) nq9
        have hq9 : (upd H7 q9 (.tup [V.int (i : Nat), V.str ar.l, V.int (Ps.idxOf ar.to : Nat), V.int ar.t])) q9 = some (.tup [V.int (i : Nat), V.str ar.l, V.int (Ps.idxOf ar.to : Nat), V.int ar.t]) := upd_same
        generalize upd H7 q9 (.tup [V.int (i : Nat), V.str ar.l, V.int (Ps.idxOf ar.to : Nat), V.int ar.t]) = H8 at sq hq9 ⊢
        have hB8 := sq _ _ hB7
        have lub : ub.length ≤ 120 := by
          have h1 := Paired.length hub
          rw [List.length_map, List.length_take] at h1
          omega
        have kt : ∀ b xs, H8 b = some (.tup xs) → (upd H8 B (.lst (ub ++ [.ref q9]))) b = some (.tup xs) := fun b xs e => tup_upd hB8 e
        refine ⟨ub, hB8, small (by omega), same_upd2 (s7.trans sq) nB, ub ++ [.ref q9], upd_same, ?_⟩
        rw [take_snoc ea, List.map_append]
        exact Paired.snoc (a4_keep (fun b xs e => kt _ _ (sq _ _ e)) hub) ⟨q9, rfl, kt _ _ hq9⟩
      · obtain ⟨s7, ub, hB7, hub⟩ := h
        rw [lul, List.take_length] at hub
        have hAr7 := s7 _ _ hAr
        have lub : ub.length ≤ 120 := by
          have h1 := Paired.length hub
          rw [List.length_map] at h1
          omega
        have nArH : H5 Ar = none := nAr
        have kt : ∀ b xs, H7 b = some (.tup xs) → (upd H7 Ar (.lst (us ++ ub))) b = some (.tup xs) := fun b xs e => tup_upd hAr7 e
        obtain ⟨z1, z2⟩ := a4_step ips ep x4 x5 ndA memA
        refine ⟨Ar, B, us, ub, rfl, rfl, hAr7, hB7, big' (by omega), A ++ as.map (toA4 Ps i), us ++ ub, some (.ref r), rfl, same_upd2 (s6.trans s7) nArH, upd_same, ?_, z1, z2, by rw [List.length_append, List.length_map]; omega⟩
        exact paired_app (a4_keep (fun b xs e => kt _ _ (s7 _ _ e)) hA) (a4_keep kt hub)
    · obtain ⟨A, us, y9, rfl, s6, hAr, hA, ndA, memA, lA⟩ := h
      rw [lvp] at memA lA
      have memA' : ∀ x, x ∈ A ↔ IsA4 Ta Ps x := fun x => ⟨fun h => ((memA x).mp h).2, fun h => (memA x).mpr ⟨by
        obtain ⟨p, _, e, _⟩ := h
        exact (List.getElem?_eq_some_iff.mp e).1, h⟩⟩
      have ias := as_of ndA memA'
      have lus : us.length = A.length := Paired.length hA
      have s26 := s25.trans s6
      refine ⟨.ref Pa, rfl, Pa, vp, rfl, .inl ⟨.inl (.inl (s6 _ _ hPa5)), fun T1 nT1 => ?_⟩⟩
      have c1 := same_new (o := .tup vp) nT1
      have hT1 : (upd H' T1 (.tup vp)) T1 = some (.tup vp) := upd_same
      generalize upd H' T1 (.tup vp) = G1 at c1 hT1 ⊢
      refine ⟨.ref F, rfl, F, _, rfl, .inl ⟨.inl (.inl (c1 _ _ (s6 _ _ hF))), fun T2 nT2 => ?_⟩⟩
      have c2 := same_new (o := .tup ((finsOf Ta Ps).map fun k => V.int (k : Nat))) nT2
      have hT2 : (upd G1 T2 (.tup ((finsOf Ta Ps).map fun k => V.int (k : Nat)))) T2 = some (.tup ((finsOf Ta Ps).map fun k => V.int (k : Nat))) := upd_same
      generalize upd G1 T2 (.tup ((finsOf Ta Ps).map fun k => V.int (k : Nat))) = G2 at c2 hT2 ⊢
      have cA2 := a4_keep (fun b xs e => c2 _ _ (c1 _ _ e)) hA
      refine ⟨.ref Ar, rfl, Ar, us, A.map a4D, rfl, .inl (.inl (c2 _ _ (c1 _ _ hAr))), a4_data cA2, PySem.W.AllAlike.of (fun b b' => rfl), PySem.W.Sortable.tuples (fun b => ⟨_, _, rfl⟩), fun d hd => ?_, fun S nS => ?_⟩
      · obtain ⟨x, _, rfl⟩ := List.mem_map.mp hd
        have : (a4D x).depth = 1 := by simp [a4D, PyData.depth, PyData.depthAll]
        omega
      have cS := same_new (o := .lst (((us.zip (A.map a4D)).mergeSort (PySem.W.dataLe false Prod.snd)).map Prod.fst)) nS
      have hS : (upd G2 S (.lst (((us.zip (A.map a4D)).mergeSort (PySem.W.dataLe false Prod.snd)).map Prod.fst))) S = some (.lst (((us.zip (A.map a4D)).mergeSort (PySem.W.dataLe false Prod.snd)).map Prod.fst)) := upd_same
      have pS : Paired (A4At G2) (((us.zip (A.map a4D)).mergeSort (PySem.W.dataLe false Prod.snd)).map Prod.fst) (A.mergeSort leA4) := by
        have h1 := srt_paired (R := A4At G2) (f := fun v => v) (enc := a4D) (as := us) (bs := A) lus (fun z hz => paired_zip cA2 z hz)
        have e9 : ((us.zip (A.map a4D)).mergeSort (PySem.W.dataLe false Prod.snd)).map Prod.fst = ((us.zip A).mergeSort (PySem.W.dataLe false fun z => a4D z.2)).map fun z => z.1 := by
          rw [zip_map_r]
          have h2 := List.map_mergeSort (r := PySem.W.dataLe false fun z : V × A4 => a4D z.2) (s := PySem.W.dataLe false (Prod.snd : V × PyData → PyData)) (f := fun z : V × A4 => (z.1, a4D z.2)) (l := us.zip A) (fun a _ b _ => rfl)
          rw [← h2, List.map_map]
          rfl
        rw [e9]
        exact h1
      have lS : (A.mergeSort leA4).length = A.length := List.length_mergeSort ..
      generalize ((us.zip (A.map a4D)).mergeSort (PySem.W.dataLe false Prod.snd)).map Prod.fst = zs at cS hS pS ⊢
      generalize A.mergeSort leA4 = As at ias pS lS
      generalize upd G2 S (.lst zs) = G3 at cS hS ⊢
      refine ⟨S, zs, rfl, .inl ⟨.inl (.inl hS), fun T3 nT3 => ?_⟩⟩
      have c3 := same_new (o := .tup zs) nT3
      have hT3 : (upd G3 T3 (.tup zs)) T3 = some (.tup zs) := upd_same
      generalize upd G3 T3 (.tup zs) = G4 at c3 hT3 ⊢
      refine ⟨small' (by simp), fun T4 nT4 => ?_⟩
      have c4 := same_new (o := .tup [V.ref T1, V.ref T2, V.ref T3]) nT4
      have hT4 : (upd G4 T4 (.tup [V.ref T1, V.ref T2, V.ref T3])) T4 = some (.tup [V.ref T1, V.ref T2, V.ref T3]) := upd_same
      generalize upd G4 T4 (.tup [V.ref T1, V.ref T2, V.ref T3]) = G5 at c4 hT4 ⊢
      have d24 := (((c1.trans c2).trans cS).trans c3).trans c4
      have d2 := (cS.trans c3).trans c4
      have sAll := s26.trans d24
      refine q _ G5 Ps As (e12.trans (ExtN.of sAll)) (t2.ext sAll) ips ias lPs (by omega) ?_ ⟨T4, T1, T2, T3, _, zs, rfl, hT4, d2 _ _ (c2 _ _ hT1), pls_keep (fun b xs e => (s4.trans (s5.trans (s6.trans d24))) _ _ e) pb3, d2 _ _ hT2, c4 _ _ hT3, a4_keep (fun b xs e => d2 _ _ e) pS⟩
      refine .tup (.inl (.inl hT4)) (.cons (.tup (.inl (.inl (d2 _ _ (c2 _ _ hT1)))) (pls_data (pls_keep (fun b xs e => (s4.trans (s5.trans (s6.trans d24))) _ _ e) pb3))) (.cons (.tup (.inl (.inl (d2 _ _ hT2))) (dp_fins _)) (.cons (.tup (.inl (.inl (c4 _ _ hT3))) (a4_data (a4_keep (fun b xs e => d2 _ _ e) pS))) .nil)))
end
end K58
set_option Elab.async false
set_option linter.all false
set_option maxRecDepth 100000
set_option maxHeartbeats 2000000
namespace K58
open PySem PySem.Spec PyProof.Rows L2 Ver LamX
theorem eq_both {α : Type} {l a b : α} (h1 : a = l) (h2 : b = l) : a = b := h1.trans h2.symm
def costT (t : Int) : Int := if 0 ≤ t then 1 else 0
def costD (a : A4) : PyData := .tuple [.int a.k, .str a.l, .int a.j, .int (costT a.t)]
def prD (P : List Pl) (A : List A4) : PyData := .tuple [.int P.length, .tuple (A.map costD)]
def C4At (H : Hp) (v : V) (a : A4) : Prop := ∃ q, v = .ref q ∧ H q = some (.tup [.int (a.k : Nat), .str a.l, .int (a.j : Nat), .int (costT a.t)])
theorem c4_keep {H H' : Hp} (e : ∀ b xs, H b = some (.tup xs) → H' b = some (.tup xs)) : ∀ {vs : List V} {as : List A4}, Paired (C4At H) vs as → Paired (C4At H') vs as
  | _, _, .nil => .nil
  | _, _, .cons ⟨q, h1, h2⟩ t => .cons ⟨q, h1, e _ _ h2⟩ (c4_keep e t)
theorem c4_data {K : PySem.W.Frag} {H : Hp} : ∀ {vs : List V} {as : List A4}, Paired (C4At H) vs as → DpAll K H vs (as.map costD)
  | _, _, .nil => .nil
  | _, _, .cons ⟨q, h1, h2⟩ t => by
    subst h1
    exact .cons (.tup (.inl (.inl h2)) (.cons (.int _) (.cons (.str _) (.cons (.int _) (.cons (.int _) .nil))))) (c4_data t)
theorem dp_four {K : PySem.W.Frag} {H : Hp} {v : V} {a : A4} (h : Dp K H v (a4D a)) : ∃ q, v = .ref q ∧ SqT K H q [.int (a.k : Nat), .str a.l, .int (a.j : Nat), .int a.t] := by
  cases h with
  | tup hs ha =>
    cases ha with
    | cons h1 t1 =>
      cases h1
      cases t1 with
      | cons h2 t2 =>
        cases h2
        cases t2 with
        | cons h3 t3 =>
          cases h3
          cases t3 with
          | cons h4 t4 =>
            cases h4
            cases t4
            exact ⟨_, rfl, hs⟩
theorem dp_sp {K : PySem.W.Frag} {H : Hp} {v : V} {T : Ta} {P : List Pl} {A : List A4} (h : Dp K H v (spD T P A)) : ∃ q p f a vp vf va, v = .ref q ∧ SqT K H q [.ref p, .ref f, .ref a] ∧ SqT K H p vp ∧ DpAll K H vp (P.map plD) ∧ SqT K H f vf ∧ DpAll K H vf ((finsOf T P).map fun k => .int (k : Nat)) ∧ SqT K H a va ∧ DpAll K H va (A.map a4D) := by
  cases h with
  | tup hs ha =>
    cases ha with
    | cons h1 t1 =>
      cases h1 with
      | tup s1 d1 =>
        cases t1 with
        | cons h2 t2 =>
          cases h2 with
          | tup s2 d2 =>
            cases t2 with
            | cons h3 t3 =>
              cases h3 with
              | tup s3 d3 =>
                cases t3
                exact ⟨_, _, _, _, _, _, _, rfl, hs, s1, d1, s2, d2, s3, d3⟩
section
variable {P : Program} {w : World} {K : PySem.W.Frag} {mg : Str → Option Value} {base : Heap}
def sp_priced (K : PySem.W.Frag) (TS : List (Addr × Str)) : Sp := fun vs H Q _ => ∃ (t a : Addr) (T : Ta), vs = [.ref t, .ref a, .str T.g, .str (modeS T.hl)] ∧ SqT K H t (T.ts.map V.str) ∧ BkAt K H a T.bk ∧ T.Ok ∧ T.most ≤ 20000 ∧ Tabs TS H ∧
  ∀ (v : V) (H2 : Hp) (P : List Pl) (A : List A4), ExtN H H2 → Tabs TS H2 → IsPs T P → IsAs T P A → P.length ≤ 20000 → A.length ≤ 2400000 → Dp K H2 v (prD P A) → Q v H2
theorem ok_priced {cc cP cd cS : Addr} (T : Tx K mg) (TB : Tb T base cc cP cd cS) : FnOk P w K mg base CX0 6 T.f_priced T.d_priced ["tokens", "book", "begun", "mode"] (sp_priced K (TT cP cS)) := by
  refine T.F_priced.ok sc_priced (fun vs H Q E h => ?_) (fun cdv A outer s H vs Q E hr h => ?_)
  · obtain ⟨t, a, T, rfl, _⟩ := h; rfl
  · obtain ⟨t, a, Ta, rfl, hT, hB, ok, hm, hTb, q⟩ := h
    refine ⟨_, (pss_cons (ps_asg (pe_call (ok_speller T TB) hr rfl T.g_speller T.F_speller.kp T.b_speller .nil pass0 (pa_cons (pv 0) (pa_cons (pv 1) (pa_cons (pv 2) (pa_cons (pv 3) pa_nil))))) (pg_tup (by rfl) (pgs_cons (pg_name (i := 4) sc_priced.nd rfl (Or.inl rfl)) (pgs_cons (pg_name (i := 5) sc_priced.nd rfl (Or.inl rfl)) (pgs_cons (pg_name (i := 6) sc_priced.nd rfl (Or.inl rfl)) pgs_nil)))))
    (pss_cons (ps_setLc (i := 7) (own := [("here", 8), ("letter", 9), ("there", 10), ("token", 11)]) (g := _) (tt := tYes) (by rfl) sc_priced.nd rfl rfl (sw_true rfl rfl rfl (by decide +kernel)) (pi_tup (pv 6)) (blkOk_by (N := ["tokens", "book", "begun", "mode", "places", "_", "arcs", "costs", "here", "letter", "there", "token"]) (sc := defScope s_priced) (by decide +kernel)) (fun _ _ _ _ _ => (Ver.pg_tupK (K := K) (n := 4) rfl rfl rfl rfl (pgs_cons (pg_name (i := 8) sc_priced.nd rfl (Or.inl rfl)) (pgs_cons (pg_name (i := 9) sc_priced.nd rfl (Or.inl rfl)) (pgs_cons (pg_name (i := 10) sc_priced.nd rfl (Or.inl rfl)) (pgs_cons (pg_name (i := 11) sc_priced.nd rfl (Or.inl rfl)) pgs_nil)))))) (fun _ _ _ _ _ => pts_nil) (fun _ _ _ _ _ => (pe_tup (pa_cons (pv 8) (pa_cons (pv 9) (pa_cons (pv 10) (pa_cons (pe_ifExp (pt_cmpR op_ge (pv 11) pe_int (nomark _)) pe_int pe_int) pa_nil)))))))
    (pss_one (ps_ret (pe_tup (pa_cons (pe_callB call_len_seq (by rfl) T.n_len (by decide +kernel) (pa_cons (pv 4) pa_nil)) (pa_cons (pe_callTy call_tuple_of (by rfl) T.n_tuple (by decide +kernel) (pa_cons (pv 7) pa_nil)) pa_nil))))))), ?_⟩
    refine ⟨.ref t, rfl, .ref a, rfl, .str Ta.g, rfl, .str (modeS Ta.hl), rfl, t, a, Ta, rfl, hT, hB, ok, hm, hTb, fun v H2 Ps A e2 t2 ips ias lP lA hv _ => ?_⟩
    obtain ⟨q0, p0, f0, a0, vp, vf, va, rfl, s0, s1, d1, s2, d2, s3, d3⟩ := dp_sp hv
    have lvp : vp.length = Ps.length := by have := dpAll_len d1; rw [List.length_map] at this; exact this
    have lva : va.length = A.length := by have := dpAll_len d3; rw [List.length_map] at this; exact this
    refine ⟨q0, _, rfl, s0, rfl, .ref p0, _, rfl, .ref f0, _, rfl, .ref a0, _, rfl, rfl, ?_⟩
    refine ⟨.ref a0, rfl, a0, rfl, ⟨_, s3⟩, fun C nC => ?_⟩
    refine lc_tup (K := K) (a := a0) (xs := va) (fun n H' => Same H2 H' ∧ ∃ uc, H' C = some (.lst uc) ∧ Paired (C4At H') uc (A.take n)) ⟨same_new nC, [], upd_same, .nil⟩ (fun n H' _ h => seqT_grow h.1 s3) (fun n x H' ex h => ?_) (fun H' h => ?_)
    · obtain ⟨s7, uc, hC, hP⟩ := h
      have ltn := (List.getElem?_eq_some_iff.mp ex).1
      have ea : A[n]? = some (A[n]'(by omega)) := List.getElem?_eq_getElem _
      generalize A[n]'(by omega) = ar at ea
      obtain ⟨d, ed, hd⟩ := dpAll_get d3 ex
      rw [List.getElem?_map, ea] at ed
      have ed : a4D ar = d := Option.some.inj ed
      subst ed
      obtain ⟨q1, rfl, hq⟩ := dp_four hd
      have luc : uc.length ≤ 2400000 := by
        have h1 := Paired.length hP
        rw [List.length_take] at h1
        omega
      have fin : ∀ c : Int, c = costT ar.t → ∀ p, H' p = none → ∃ acc, (upd H' p (.tup [V.int (ar.k : Nat), V.str ar.l, V.int (ar.j : Nat), V.int c])) C = some (.lst acc) ∧ acc.length < sizeLine ∧
          (Same H2 (upd (upd H' p (.tup [V.int (ar.k : Nat), V.str ar.l, V.int (ar.j : Nat), V.int c])) C (.lst (acc ++ [.ref p]))) ∧ ∃ uc, (upd (upd H' p (.tup [V.int (ar.k : Nat), V.str ar.l, V.int (ar.j : Nat), V.int c])) C (.lst (acc ++ [.ref p]))) C = some (.lst uc) ∧ Paired (C4At (upd (upd H' p (.tup [V.int (ar.k : Nat), V.str ar.l, V.int (ar.j : Nat), V.int c])) C (.lst (acc ++ [.ref p])))) uc (A.take (n + 1))) := fun c ec p np => by
        subst ec
        have sp := same_new (o := .tup [V.int (ar.k : Nat), V.str ar.l, V.int (ar.j : Nat), V.int (costT ar.t)]) np
        have hp : (upd H' p (.tup [V.int (ar.k : Nat), V.str ar.l, V.int (ar.j : Nat), V.int (costT ar.t)])) p = some (.tup [V.int (ar.k : Nat), V.str ar.l, V.int (ar.j : Nat), V.int (costT ar.t)]) := upd_same
        generalize upd H' p (.tup [V.int (ar.k : Nat), V.str ar.l, V.int (ar.j : Nat), V.int (costT ar.t)]) = H8 at sp hp ⊢
        have hC8 := sp _ _ hC
        have kt : ∀ b xs, H8 b = some (.tup xs) → (upd H8 C (.lst (uc ++ [.ref p]))) b = some (.tup xs) := fun b xs e => tup_upd hC8 e
        refine ⟨uc, hC8, big (by omega), same_upd2 (s7.trans sp) nC, uc ++ [.ref p], upd_same, ?_⟩
        rw [take_snoc ea]
        exact Paired.snoc (c4_keep (fun b xs e => kt _ _ (sp _ _ e)) hP) ⟨p, rfl, kt _ _ hp⟩
      generalize hw : wipe _ _ = σw
      have hw2 : σw = [some (.ref t), some (.ref a), some (.str Ta.g), some (.str (modeS Ta.hl)), some (.ref p0), some (.ref f0), some (.ref a0), none, none, none, none, none] := hw.symm
      subst hw2
      refine ⟨q1, _, rfl, seqT_grow s7 hq, rfl, .int (ar.k : Nat), _, rfl, .str ar.l, _, rfl, .int (ar.j : Nat), _, rfl, .int ar.t, _, rfl, rfl, rfl, yes_on ?_⟩
      refine ⟨.int (ar.k : Nat), rfl, .str ar.l, rfl, .int (ar.j : Nat), rfl, .int ar.t, rfl, _, _, rfl, rfl, _, rfl, ite2 (fun z => ?_) (fun z => ?_)⟩
      · exact ⟨small' (by simp), fun p np => fin 1 (by unfold costT; rw [if_pos (of_decide_eq_true z)]) p np⟩
      · exact ⟨small' (by simp), fun p np => fin 0 (by unfold costT; rw [if_neg (fun h => z (decide_eq_true h))]) p np⟩
    · obtain ⟨s7, uc, hC, hP⟩ := h
      rw [lva, List.take_length] at hP
      refine ⟨.ref p0, rfl, p0, vp, rfl, .inr (seqT_grow s7 s1), ?_⟩
      rw [lvp]
      refine ⟨.ref C, rfl, C, uc, rfl, .inl ⟨.inl (.inl hC), fun T3 nT3 => ?_⟩⟩
      have c3 := same_new (o := .tup uc) nT3
      have hT3 : (upd H' T3 (.tup uc)) T3 = some (.tup uc) := upd_same
      generalize upd H' T3 (.tup uc) = G4 at c3 hT3 ⊢
      refine ⟨small' (by simp), fun T4 nT4 => ?_⟩
      have c4 := same_new (o := .tup [V.int (Ps.length : Nat), V.ref T3]) nT4
      have sAll := (s7.trans c3).trans c4
      refine q _ _ Ps A (e2.trans (ExtN.of sAll)) (t2.ext sAll) ips ias lP lA ?_
      exact .tup (.inl (.inl upd_same)) (.cons (.int _) (.cons (.tup (.inl (.inl (c4 _ _ hT3))) (c4_data (c4_keep (fun b xs e => c4 _ _ (c3 _ _ e)) hP))) .nil))
end
end K58
set_option Elab.async false
set_option linter.all false
set_option maxRecDepth 100000
set_option maxHeartbeats 2000000
namespace K58
open PySem PySem.Spec PyProof.Rows L2 Ver
def signN (c : Nat) : Bool := decide (32 ≤ c) && decide (c ≤ 126) && decide (c ≠ 37)
def textD : PyData → Bool | .str z => z.cps.toList.all signN | _ => false
def lenT : PyData → Nat | .str z => z.length | _ => 0
theorem lt_one {a b : Nat} : decide ([a] < [b]) = decide (a < b) := by
  by_cases h : a < b
  · rw [decide_eq_true h, decide_eq_true (List.cons_lt_cons_iff.mpr (.inl h))]
  · rw [decide_eq_false h, decide_eq_false]
    intro z
    rcases List.cons_lt_cons_iff.mp z with z | ⟨_, z⟩
    · exact h z
    · exact absurd z (List.lt_irrefl _)
section
variable {P : Program} {w : World} {K : PySem.W.Frag} {mg : Str → Option Value} {base : Heap}
def sp__is_sign (K : PySem.W.Frag) : Sp := fun vs H Q _ => ∃ c : Nat, vs = [.str ⟨#[c]⟩] ∧ Q (.bl (signN c)) H
theorem ok__is_sign (T : Tx K mg) : FnOk P w K mg base CX0 1 T.f__is_sign T.d__is_sign ["sign"] (sp__is_sign K) := by
  refine T.F__is_sign.ok sc__is_sign (fun vs H Q E h => ?_) (fun cdv A outer s H vs Q E hr h => ?_)
  · obtain ⟨c, rfl, _⟩ := h; rfl
  · obtain ⟨c, rfl, q⟩ := h
    refine ⟨_, (pss_one (ps_ret (pe_and (pe_chain op_le_str op_le_str pe_str (pv 0) pe_str) (pe_one (pe_cmpR op_ne (pe_callB call_ord (by rfl) T.n_ord (by decide +kernel) (pa_cons (pv 0) pa_nil)) (pe_glob (v := .int (37)) rfl T.c__PERCENT.choose_spec ⟨_, rfl⟩) (nomark _)))))), ?_⟩
    refine ⟨.str ⟨#[c]⟩, rfl, _, _, rfl, rfl, _, rfl, ?_⟩
    have e1 : decide ((⟨#[c]⟩ : Str).cps.toList < (Str.ofString " ").cps.toList) = decide (c < 32) := lt_one (a := c) (b := 32)
    have e2 : decide ((Str.ofString "~").cps.toList < (⟨#[c]⟩ : Str).cps.toList) = decide (126 < c) := lt_one (a := 126) (b := c)
    rw [e1]
    refine ite2 (fun h1 => ⟨_, _, rfl, rfl, _, rfl, ?_⟩) (fun h1 => ⟨_, rfl, ?_⟩)
    · rw [e2]
      refine ite2 (fun h2 => ⟨.str ⟨#[c]⟩, rfl, ⟨#[c]⟩, rfl, rfl, rfl, ?_⟩) (fun h2 => ?_)
      · have es : signN c = !decide (V.int ((((#[c] : Array Nat).getD 0 0 : Nat)) : Int) = V.int 37) := by
          have a1 : ¬ c < 32 := by simpa using h1
          have a2 : ¬ 126 < c := by simpa using h2
          have a3 : ((#[c] : Array Nat).getD 0 0) = c := rfl
          rw [a3]
          unfold signN
          rw [decide_eq_true (by omega : 32 ≤ c), decide_eq_true (by omega : c ≤ 126)]
          by_cases e : c = 37
          · subst e; rfl
          · have e' : ¬ (V.int (c : Int) = V.int 37) := fun z => e (by injection z with z; omega)
            rw [decide_eq_false e', decide_eq_true e]; rfl
        rw [es] at q
        exact q
      · have a2 : 126 < c := by simpa using h2
        have es : signN c = false := by
          unfold signN
          rw [decide_eq_false (by omega : ¬ c ≤ 126), Bool.and_false, Bool.false_and]
        rw [es] at q
        exact q
    · have a1 : c < 32 := by simpa using h1
      have es : signN c = false := by
        unfold signN
        rw [decide_eq_false (by omega : ¬ 32 ≤ c)]; rfl
      rw [es] at q
      exact q
def sp_is_text (K : PySem.W.Frag) : Sp := fun vs H Q _ => ∃ x d, vs = [x] ∧ Dp K H x d ∧ lenT d ≤ 5000 ∧ ∀ H', Same H H' → Q (.bl (textD d)) H'
theorem ok_is_text (T : Tx K mg) : FnOk P w K mg base CX0 2 T.f_is_text T.d_is_text ["thing"] (sp_is_text K) := by
  refine T.F_is_text.ok sc_is_text (fun vs H Q E h => ?_) (fun cdv A outer s H vs Q E hr h => ?_)
  · obtain ⟨x, d, rfl, _⟩ := h; rfl
  · obtain ⟨x, d, rfl, hd, hl, q⟩ := h
    refine ⟨_, (pss_one (ps_ret (pe_and (pe_callB (cr_isiD (n := "str") (by decide)) (by rfl) T.n_isinstance (by decide +kernel) (pa_cons (pv 0) (pa_cons (pe_bltn (v := .ty "str") (by rfl) T.n_str (by decide +kernel) rfl) pa_nil))) (pe_one (pe_callB (cr_all rfl) (by rfl) T.n_all (by decide +kernel) (pa_cons (pe_lc (own := [("sign", 1)]) (g := gName 1) (tt := tYes) (by rfl) sc_is_text.nd (pi_str (pv 0)) (blkOk_by (N := ["thing", "sign"]) (sc := defScope s_is_text) (by decide +kernel)) (fun _ _ _ _ _ => (pg_name (i := 1) sc_is_text.nd rfl (Or.inl rfl))) (fun _ _ _ _ _ => pts_nil) (fun _ _ _ _ _ => (pe_call (ok__is_sign T) hr rfl T.g__is_sign T.F__is_sign.kp T.b__is_sign .nil pass0 (pa_cons (pv 1) pa_nil)))) pa_nil)))))), ?_⟩
    refine ⟨x, rfl, x, d, rfl, hd, _, rfl, ?_⟩
    rw [isa_str]
    cases d
    case str z =>
      cases hd
      refine ⟨.str z, rfl, z, rfl, fun D nD => ?_⟩
      have sm : Same H (upd H D (.lst [])) := same_new nD
      refine comp_str (x := z) (i := 1) (fun acc H' => Same H H' ∧ acc = ((z.cps.toList.take acc.length).map fun c => V.bl (signN c))) ⟨sm, rfl⟩ (fun acc c H' e h hD => ?_) (fun acc H' e h hD => ?_)
      · refine ⟨_, rfl, c, rfl, ?_⟩
        have e' : z.cps.toList[acc.length]? = some c := by rw [Array.getElem?_toList]; exact e
        have lt : acc.length < z.cps.toList.length := (List.getElem?_eq_some_iff.mp e').1
        have hz : z.cps.toList.length ≤ 5000 := by rw [Array.length_toList]; exact hl
        refine turned hD (small (by omega)) ⟨fun b o eb => ?_, ?_⟩
        · rw [upd_ne (ne_of_none eb nD)]
          exact h.1 b o eb
        · rw [List.length_append, List.length_singleton, List.take_add_one, e', List.map_append, ← h.2]
          rfl
      · refine ⟨D, z.cps.toList.map signN, rfl, .inl (.inl ?_), ?_⟩
        · have el : z.length = z.cps.toList.length := by rw [Array.length_toList]; rfl
          rw [hD, h.2, e, el, List.take_length, List.map_map]
          rfl
        · have e2 : (z.cps.toList.map signN).all id = z.cps.toList.all signN := by rw [List.all_map]; rfl
          rw [e2]
          exact q H' h.1
    all_goals exact q H (Same.refl H)
def sp_ask_text (K : PySem.W.Frag) (C : Addr) : Sp := fun vs H Q E => ∃ x d, vs = [x] ∧ Dp K H x d ∧ lenT d ≤ 5000 ∧ (textD d = true → lenT d ≤ 1200 → ∀ H', Same H H' → Q .non H') ∧ (¬ (textD d = true ∧ lenT d ≤ 1200) → Refuses C E H "text")
theorem ok_ask_text (T : Tx K mg) : FnOk P w K mg base (L2.CX P w) 3 T.f_ask_text T.d_ask_text ["text"] (sp_ask_text K T.C_NotUsable) := by
  refine T.F_ask_text.okX sc_ask_text (fun vs H Q E h => ?_) (fun cdv A outer s H vs Q E hr h => ?_)
  · obtain ⟨x, d, rfl, _⟩ := h; rfl
  · obtain ⟨x, d, rfl, hd, hl, q1, q2⟩ := h
    refine ⟨_, (pss_one (ps_if (PW.pt (pw_or (pt_not (pt_val (pe_call (ok_is_text T) hr rfl T.g_is_text T.F_is_text.kp T.b_is_text .nil pass0 (pa_cons (pv 0) pa_nil)))) (pw_or1 (pt_cmpR op_gt (pe_callB call_len_str (by rfl) T.n_len (by decide +kernel) (pa_cons (pv 0) pa_nil)) (pe_glob (v := .int (1200)) rfl T.c_TEXT_LIMIT.choose_spec ⟨_, rfl⟩) (nomark _))))) (pss_one (ps_raiseNus rfl T.nus hr (takes_of rfl rfl rfl rfl) (pa_cons pe_str pa_nil))) pss_nil)), ?_⟩
    refine ⟨x, rfl, x, d, rfl, hd, hl, fun H' sm => ?_⟩
    refine ⟨_, rfl, ?_⟩
    cases e : textD d with
    | false => exact ⟨_, rfl, fun dd n => q2 (fun z => by rw [e] at z; cases z.1) H' dd sm n⟩
    | true =>
      cases d
      case str z =>
        cases hd
        have hl' : z.length ≤ 5000 := hl
        refine ⟨.str z, rfl, z, rfl, small' (by omega), z.length, 1200, rfl, rfl, _, rfl, ?_⟩
        refine ite2 (fun h1 => ?_) (fun h1 => ?_)
        · have h1' := of_decide_eq_true h1
          exact ⟨_, rfl, fun dd n => q2 (fun z2 => by have : z.length ≤ 1200 := z2.2; omega) H' dd sm n⟩
        · have h1' : ¬ (1200 : Int) < z.length := by simpa using h1
          exact q1 e (by show z.length ≤ 1200; omega) H' sm
      all_goals cases e
end
end K58
set_option Elab.async false
set_option linter.all false
set_option maxRecDepth 100000
set_option maxHeartbeats 2000000
namespace K58
open PySem PySem.Spec PyProof.Rows L2 Ver
section
variable {P : Program} {w : World} {K : PySem.W.Frag} {mg : Str → Option Value} {base : Heap}
def sp_ask_below (K : PySem.W.Frag) (C : Addr) : Sp := fun vs H Q E => ∃ (x : V) (d : PyData) (b : Int) (z : Str), vs = [x, .int b, .str z] ∧ Dp K H x d ∧ (belowD b d = true → Q .non H) ∧ (belowD b d = false → Refuses C E H z)
theorem ok_ask_below (T : Tx K mg) : FnOk P w K mg base (L2.CX P w) 4 T.f_ask_below T.d_ask_below ["number", "bound", "word"] (sp_ask_below K T.C_NotUsable) := by
  refine T.F_ask_below.okX sc_ask_below (fun vs H Q E h => ?_) (fun cdv A outer s H vs Q E hr h => ?_)
  · obtain ⟨x, d, b, z, rfl, _⟩ := h; rfl
  · obtain ⟨x, d, b, z, rfl, hd, q1, q2⟩ := h
    refine ⟨_, (pss_one (ps_if (pt_not (pt_val (pe_call (ok_is_below T) hr rfl T.g_is_below T.F_is_below.kp T.b_is_below .nil pass0 (pa_cons (pv 0) (pa_cons (pv 1) pa_nil))))) (pss_one (ps_raiseNus rfl T.nus hr (takes_of rfl rfl rfl rfl) (pa_cons (pv 2) pa_nil))) pss_nil)), ?_⟩
    refine ⟨x, rfl, .int b, rfl, x, d, b, rfl, hd, ?_⟩
    refine ⟨_, rfl, ?_⟩
    cases e : belowD b d with
    | false => exact ⟨.str z, rfl, _, rfl, fun dd n => q2 e H dd (Same.refl H) n⟩
    | true => exact q1 e
end
end K58
set_option Elab.async false
set_option linter.all false
set_option maxRecDepth 100000
set_option maxHeartbeats 2000000
namespace K58
open PySem PySem.Spec PyProof.Rows L2 Ver
def prcK (l : List (Int × Int)) : List (L2.Key × V) := l.map fun x => (.inl x.1, .int x.2)
def look (l : List (Int × Int)) (t : Int) : Option Int := (l.find? fun x => decide (x.1 = t)).map (·.2)
def putL (l : List (Int × Int)) (t v : Int) : List (Int × Int) := if (look l t).isSome = true then l.map fun x => if x.1 = t then (x.1, v) else x else l ++ [(t, v)]
def putMin (l : List (Int × Int)) (t v : Int) : List (Int × Int) := match look l t with | none => putL l t v | some c => if v < c then putL l t v else l
def behindL (l : List (Int × Int)) (st : Int → List (Int × Int)) : List (Int × Int) := l.foldl (fun acc x => (st x.1).foldl (fun acc y => putMin acc y.1 (x.2 + y.2)) acc) []
theorem prc_val (t : Int) : ∀ l : List (Int × Int), valV (prcK l) (.inl t) = (look l t).map V.int
  | [] => rfl
  | x :: l => by
    have ih := prc_val t l
    by_cases e : x.1 = t
    · have h1 : valV (prcK (x :: l)) (.inl t) = some (.int x.2) := valV_pos (congrArg Sum.inl e)
      rw [h1]
      unfold look
      rw [List.find?_cons_of_pos (by simp [e])]
      rfl
    · have h1 : valV (prcK (x :: l)) (.inl t) = valV (prcK l) (.inl t) := valV_neg (fun z => e (Sum.inl.inj z))
      rw [h1, ih]
      unfold look
      rw [List.find?_cons_of_neg (by simp [e])]
theorem prc_put (l : List (Int × Int)) (t v : Int) : putK (prcK l) (.inl t) (.int v) = prcK (putL l t v) := by
  unfold putK putL
  rw [valV_any, prc_val, Option.isSome_map]
  split
  · unfold prcK
    rw [List.map_map, List.map_map]
    refine List.map_congr_left fun x _ => ?_
    show (if (Sum.inl x.1 : L2.Key) = .inl t then _ else _) = _
    by_cases e : x.1 = t
    · rw [if_pos (by rw [e])]
      show _ = (fun x : Int × Int => ((Sum.inl x.1 : L2.Key), V.int x.2)) (if x.1 = t then (x.1, v) else x)
      rw [if_pos e]
    · rw [if_neg (fun z => e (Sum.inl.inj z))]
      show _ = (fun x : Int × Int => ((Sum.inl x.1 : L2.Key), V.int x.2)) (if x.1 = t then (x.1, v) else x)
      rw [if_neg e]
  · unfold prcK
    rw [List.map_append]
    rfl
def StepAt (H : Hp) (v : V) (x : Int × Int) : Prop := ∃ q, v = .ref q ∧ H q = some (.tup [.int x.1, .int x.2])
section
variable {P : Program} {w : World} {K : PySem.W.Frag} {mg : Str → Option Value} {base : Heap}
def StepsAt (H : Hp) (b : Addr) (st : Int → List (Int × Int)) : Prop := ∃ sk, H b = some (.dK sk) ∧ ∀ h, (valV sk (.inl h) = none ∧ st h = []) ∨ ∃ L us, valV sk (.inl h) = some (.ref L) ∧ H L = some (.lst us) ∧ Paired (StepAt H) us (st h)
theorem steps_keep {H H' : Hp} (e : ∀ b xs, H b = some (.tup xs) → H' b = some (.tup xs)) : ∀ {vs : List V} {ps : List (Int × Int)}, Paired (StepAt H) vs ps → Paired (StepAt H') vs ps
  | _, _, .nil => .nil
  | _, _, .cons ⟨r, h1, h2⟩ t => .cons ⟨r, h1, e _ _ h2⟩ (steps_keep e t)
theorem steps_get {H : Hp} : ∀ {vs : List V} {es : List (Int × Int)} {i : Nat} {v : V} {e : Int × Int}, Paired (StepAt H) vs es → vs[i]? = some v → es[i]? = some e → StepAt H v e
  | _, _, i, _, _, .nil, h, _ => by simp at h
  | _, _, 0, _, _, .cons h1 _, h, k => by
    rw [← Option.some.inj h, ← Option.some.inj k]
    exact h1
  | _, _, i + 1, _, _, .cons _ t, h, k => steps_get (i := i) t h k
theorem putL_len (l : List (Int × Int)) (t v : Int) : (putL l t v).length ≤ l.length + 1 := by
  unfold putL
  split
  · rw [List.length_map]; exact Nat.le_succ _
  · rw [List.length_append]; exact Nat.le_refl _
theorem putMin_len (l : List (Int × Int)) (t v : Int) : (putMin l t v).length ≤ l.length + 1 := by
  unfold putMin
  split
  · exact putL_len l t v
  · split
    · exact putL_len l t v
    · exact Nat.le_succ _
def sp__prices_behind (K : PySem.W.Frag) : Sp := fun vs H Q _ => ∃ (a b : Addr) (l : List (Int × Int)) (st : Int → List (Int × Int)), vs = [.ref a, .ref b] ∧ H a = some (.dK (prcK l)) ∧ StepsAt H b st ∧ a ≠ b ∧ l.length ≤ 1000 ∧ (∀ h, (st h).length ≤ 5000) ∧
  ∀ N H', Same H H' → H N = none → H' N = some (.dK (prcK (behindL l st))) → Q (.ref N) H'
theorem ok__prices_behind (T : Tx K mg) : FnOk P w K mg base CX0 1 T.f__prices_behind T.d__prices_behind ["prices", "steps"] (sp__prices_behind K) := by
  refine T.F__prices_behind.ok sc__prices_behind (fun vs H Q E h => ?_) (fun cdv A outer s H vs Q E hr h => ?_)
  · obtain ⟨a, b, l, st, rfl, _⟩ := h; rfl
  · obtain ⟨a, b, l, st, rfl, ha, ⟨sk, hb, hst⟩, ab, ll, ls, q⟩ := h
    refine ⟨_, (pss_cons (ps_set (i := 2) sc__prices_behind.nd rfl (Or.inl rfl) pe_dnewK)
    (pss_cons (ps_lock (ps_for PassesOwn.never rfl (pi_items (pv 0)) (pg_tup (by rfl) (pgs_cons (pg_name (i := 3) sc__prices_behind.nd rfl (Or.inl rfl)) (pgs_cons (pg_name (i := 4) sc__prices_behind.nd rfl (Or.inl rfl)) pgs_nil)))
    (pss_one (ps_for PassesOwn.never rfl (pi_list (pe_dget2 (hu_of hr) (pv 1) (pv 3) (pe_lst pa_nil) ⟨rfl, rfl, rfl, rfl⟩)) (pg_tup (by rfl) (pgs_cons (pg_name (i := 5) sc__prices_behind.nd rfl (Or.inl rfl)) (pgs_cons (pg_name (i := 6) sc__prices_behind.nd rfl (Or.inl rfl)) pgs_nil)))
    (pss_one (ps_if (PW.pt (pw_or (pt_cmp (pc_dnotin (hu_of hr) (pv 5) (pv 2)) (by rfl)) (pw_or1 (pt_cmpR op_lt (pe_op op_add (pv 4) (pv 6)) (pe_dget (hu_of hr) (pv 2) (pv 5) (fun _ _ => rfl)) (nomark _))))) (pss_one (ps_dput (hu_of hr) (pv 2) (pv 5) (pe_op op_add (pv 4) (pv 6)) rfl)) pss_nil))))))
    (pss_one (ps_ret (pv 2))))), ?_⟩
    refine fun N nN => ?_
    have sN := same_new (o := .dK []) nN
    have hN : (upd H N (.dK [])) N = some (.dK []) := upd_same
    generalize upd H N (.dK []) = H1 at sN hN ⊢
    have aN : a ≠ N := fun e => by rw [e, nN] at ha; cases ha
    refine ⟨a, _, sN _ _ ha, True.intro, fun od => ?_⟩
    have sF : ∀ b, b ≠ a → (upd H1 a (.frz od (.dK (prcK l)))) b = H1 b := fun b ne => upd_ne ne
    generalize hHF : upd H1 a (.frz od (.dK (prcK l))) = HF at sF
    have hF : HF a = some (.frz od (.dK (prcK l))) := by rw [← hHF]; exact upd_same
    refine ⟨.ref a, rfl, a, od, _, rfl, hF, ?_⟩
    refine for_it (walk_items (d := a) (o := od) (kvs := prcK l)) (fun i σ H' => ∃ (y3 y4 y5 y6 : Option V), σ = [some (.ref a), some (.ref b), some (.ref N), y3, y4, y5, y6] ∧ (∀ c o, c ≠ N → HF c = some o → H' c = some o) ∧ H' N = some (.dK (prcK (behindL (l.take i) st))) ∧ (behindL (l.take i) st).length ≤ 5000 * i)
      ⟨none, none, none, none, rfl, fun c o _ h => h, by rw [sF N aN.symm]; exact hN, Nat.zero_le _⟩ (fun i σ H' _ h => ?_) ?_ ?_
    · obtain ⟨_, _, _, _, _, k, _⟩ := h
      exact k _ _ aN hF
    · rintro i x σ H2 H3 lt ⟨y3, y4, y5, y6, rfl, k, hN2, lb⟩ ⟨TT, x1, x2, rfl, nT, rfl, ex1, ex2⟩
      have lti : i < l.length := by
        have : (prcK l).length = l.length := List.length_map ..
        omega
      have el : l[i]? = some l[i] := List.getElem?_eq_getElem lti
      generalize l[i] = hp at el
      have ek : (prcK l)[i]? = some (.inl hp.1, .int hp.2) := by unfold prcK; rw [List.getElem?_map, el]; rfl
      dsimp only at ex1 ex2
      rw [ek] at ex1 ex2
      have ex1 : V.int hp.1 = x1 := Option.some.inj ex1
      have ex2 : V.int hp.2 = x2 := Option.some.inj ex2
      subst ex1 ex2
      have sT := same_new (o := .tup [V.int hp.1, V.int hp.2]) nT
      have hT : (upd H2 TT (.tup [V.int hp.1, V.int hp.2])) TT = some (.tup [V.int hp.1, V.int hp.2]) := upd_same
      generalize upd H2 TT (.tup [V.int hp.1, V.int hp.2]) = H3 at sT hT ⊢
      refine ⟨TT, _, rfl, .inl (.inl hT), rfl, .int hp.1, _, rfl, .int hp.2, _, rfl, rfl, ?_⟩
      have bN : b ≠ N := fun e => by rw [e, nN] at hb; cases hb
      have hbF : HF b = some (.dK sk) := by rw [sF b ab.symm]; exact sN _ _ hb
      have hb3 := sT _ _ (k _ _ bN hbF)
      have eB : behindL (l.take (i + 1)) st = (st hp.1).foldl (fun acc y => putMin acc y.1 (hp.2 + y.2)) (behindL (l.take i) st) := by
        unfold behindL
        rw [take_snoc el, List.foldl_append]
        rfl
      refine ⟨.ref b, rfl, b, rfl, .inl ⟨_, .inl hb3⟩, .int hp.1, rfl, Nat.zero_le _, fun E0 nE0 => ?_⟩
      have sE := same_new (o := .lst []) nE0
      have hE : (upd H3 E0 (.lst [])) E0 = some (.lst []) := upd_same
      have g := DGet.k (k := Sum.inl hp.1) (sE _ _ hb3)
      have hN4 := sE _ _ (sT _ _ hN2)
      have k4 : ∀ c o, c ≠ N → HF c = some o → (upd H3 E0 (.lst [])) c = some o := fun c o ne h => sE _ _ (sT _ _ (k c o ne h))
      obtain ⟨L, us, eL, hL, hP, LN⟩ : ∃ L us, (valV sk (Sum.inl hp.1)).getD (.ref E0) = .ref L ∧ (upd H3 E0 (.lst [])) L = some (.lst us) ∧ Paired (StepAt (upd H3 E0 (.lst []))) us (st hp.1) ∧ L ≠ N := by
        rcases hst hp.1 with ⟨h1, h2⟩ | ⟨L, us, h1, h2, h3⟩
        · exact ⟨E0, [], by rw [h1]; rfl, hE, by rw [h2]; exact .nil, fun e => by rw [e, sT _ _ hN2] at nE0; cases nE0⟩
        · have fa : ∀ c o, H c = some o → (∀ kv, o ≠ .dK kv) → HF c = some o := fun c o h n => by
            have ne : c ≠ a := fun e => by rw [e, ha] at h; exact n _ (Option.some.inj h).symm
            rw [sF c ne]
            exact sN _ _ h
          have cN : ∀ c o, H c = some o → c ≠ N := fun c o h e => by rw [e, nN] at h; cases h
          exact ⟨L, us, by rw [h1]; rfl, k4 _ _ (cN _ _ h2) (fa _ _ h2 fun _ z => by cases z), steps_keep (fun c xs e => k4 _ _ (cN _ _ e) (fa _ _ e fun _ z => by cases z)) h3, cN _ _ h2⟩
      generalize upd H3 E0 (.lst []) = H4 at hN4 k4 hL hP g ⊢
      refine ⟨_, g, ?_⟩
      rw [eL]
      refine ⟨L, rfl, ⟨_, .inl (.inl hL)⟩, ?_⟩
      have lus : us.length = (st hp.1).length := Paired.length hP
      refine for_list (K := K) (a := L) (xs := us) (fun j σ H' => ∃ (y5 y6 : Option V), σ = [some (.ref a), some (.ref b), some (.ref N), some (.int hp.1), some (.int hp.2), y5, y6] ∧ (∀ c o, c ≠ N → H4 c = some o → H' c = some o) ∧ H' N = some (.dK (prcK (((st hp.1).take j).foldl (fun acc y => putMin acc y.1 (hp.2 + y.2)) (behindL (l.take i) st)))) ∧ (((st hp.1).take j).foldl (fun acc y => putMin acc y.1 (hp.2 + y.2)) (behindL (l.take i) st)).length ≤ 5000 * i + j)
        ⟨y5, y6, rfl, fun c o _ h => h, hN4, lb⟩ (fun j σ H' _ h => ?_) (fun j x σ H' ex h => ?_) (fun σ H' h => ?_)
      · obtain ⟨_, _, _, k5, _⟩ := h
        exact .inl (.inl (k5 _ _ LN hL))
      · obtain ⟨y5, y6, rfl, k5, hN5, l5⟩ := h
        have ltj := (List.getElem?_eq_some_iff.mp ex).1
        have ey : (st hp.1)[j]? = some ((st hp.1)[j]'(by omega)) := List.getElem?_eq_getElem _
        generalize (st hp.1)[j]'(by omega) = tp at ey
        obtain ⟨q0, rfl, hq0⟩ := steps_get hP ex ey
        have qN : q0 ≠ N := fun e => by rw [e, hN4] at hq0; cases hq0
        have eF : ((st hp.1).take (j + 1)).foldl (fun acc y => putMin acc y.1 (hp.2 + y.2)) (behindL (l.take i) st) = putMin (((st hp.1).take j).foldl (fun acc y => putMin acc y.1 (hp.2 + y.2)) (behindL (l.take i) st)) tp.1 (hp.2 + tp.2) := by
          rw [take_snoc ey, List.foldl_append]
          rfl
        rw [eF]
        generalize ((st hp.1).take j).foldl (fun acc y => putMin acc y.1 (hp.2 + y.2)) (behindL (l.take i) st) = acc at hN5 l5 ⊢
        have lj := ls hp.1
        have put : ∀ (y5 y6 : Option V), ∃ H6, DPut H' N (.int tp.1) (.int (hp.2 + tp.2)) H6 ∧ (∀ c o, c ≠ N → H4 c = some o → H6 c = some o) ∧ H6 N = some (.dK (prcK (putL acc tp.1 (hp.2 + tp.2)))) := fun y5 y6 => ⟨_, DPut.k (k := Sum.inl tp.1) hN5 (big (by unfold prcK; rw [List.length_map]; omega)), fun c o ne h => by rw [upd_ne ne]; exact k5 _ _ ne h, by rw [upd_same, prc_put]⟩
        have g5 := DGet.k (k := Sum.inl tp.1) hN5
        rw [prc_val] at g5
        have pl := putMin_len acc tp.1 (hp.2 + tp.2)
        have bnd : (putMin acc tp.1 (hp.2 + tp.2)).length ≤ 5000 * i + (j + 1) := by omega
        refine ⟨q0, _, rfl, .inl (.inl (k5 _ _ qN hq0)), rfl, .int tp.1, _, rfl, .int tp.2, _, rfl, rfl, ?_⟩
        refine ⟨.int tp.1, rfl, .ref N, rfl, N, _, rfl, g5, _, rfl, ?_⟩
        cases ec : look acc tp.1 with
        | none =>
          have em : putMin acc tp.1 (hp.2 + tp.2) = putL acc tp.1 (hp.2 + tp.2) := by unfold putMin; rw [ec]
          rw [em] at bnd ⊢
          obtain ⟨H6, p1, p2, p3⟩ := put none none
          refine if_tt (if_tt ?_)
          exact ⟨.int hp.2, rfl, .int tp.2, rfl, _, _, rfl, rfl, .ref N, rfl, .int tp.1, rfl, N, H6, rfl, p1, _, _, rfl, p2, p3, bnd⟩
        | some c =>
          rw [ec] at g5
          refine if_ff ?_
          refine ⟨.int hp.2, rfl, .int tp.2, rfl, _, _, rfl, rfl, .ref N, rfl, .int tp.1, rfl, N, _, rfl, g5, _, _, rfl, rfl, _, rfl, ite2 (fun z => ?_) (fun z => ?_)⟩
          · have em : putMin acc tp.1 (hp.2 + tp.2) = putL acc tp.1 (hp.2 + tp.2) := by unfold putMin; rw [ec]; exact if_pos (of_decide_eq_true z)
            rw [em] at bnd ⊢
            obtain ⟨H6, p1, p2, p3⟩ := put none none
            exact ⟨.int hp.2, rfl, .int tp.2, rfl, _, _, rfl, rfl, .ref N, rfl, .int tp.1, rfl, N, H6, rfl, p1, _, _, rfl, p2, p3, bnd⟩
          · have em : putMin acc tp.1 (hp.2 + tp.2) = acc := by unfold putMin; rw [ec]; exact if_neg (fun n => z (decide_eq_true n))
            rw [em] at bnd ⊢
            exact ⟨_, _, rfl, k5, hN5, bnd⟩
      · obtain ⟨y5, y6, rfl, k5, hN5, l5⟩ := h
        rw [lus, List.take_length] at hN5 l5
        have lj := ls hp.1
        rw [← eB] at hN5 l5
        exact ⟨_, _, y5, y6, rfl, fun c o ne h => k5 _ _ ne (k4 _ _ ne h), hN5, by omega⟩
    · rintro σ H2 ⟨y3, y4, y5, y6, rfl, k, hN2, lb⟩
      have ln : (prcK l).length = l.length := List.length_map ..
      rw [ln, List.take_length] at hN2
      refine ⟨k _ _ aN hF, ?_⟩
      refine ⟨.ref N, rfl, q N _ (fun c o h => ?_) nN (by rw [upd_ne aN.symm]; exact hN2)⟩
      by_cases e : c = a
      · subst e
        rw [upd_same, ← ha, h]
      · rw [upd_ne e]
        exact k _ _ (fun e2 => by rw [e2, nN] at h; cases h) (by rw [sF c e]; exact sN _ _ h)
end
end K58
set_option Elab.async false
set_option linter.all false
set_option maxRecDepth 100000
set_option maxHeartbeats 2000000
namespace K58
open PySem PySem.Spec PyProof.Rows L2 Ver
def stepsOf (A : List A4) (z : Str) (h : Int) : List (Int × Int) := (A.filter fun x => decide (x.l = z) && decide ((x.k : Int) = h)).map fun x => ((x.j : Int), x.t)
theorem stepsOf_snoc (A : List A4) (x : A4) (z : Str) (h : Int) : stepsOf (A ++ [x]) z h = stepsOf A z h ++ (if x.l = z ∧ (x.k : Int) = h then [((x.j : Int), x.t)] else []) := by
  unfold stepsOf
  rw [List.filter_append, List.map_append]
  congr 1
  by_cases c : x.l = z ∧ (x.k : Int) = h
  · rw [if_pos c, List.filter_cons_of_pos (by simp [c.1, c.2])]; rfl
  · rw [if_neg c, List.filter_cons_of_neg (by simp; exact fun e1 e2 => c ⟨e1, e2⟩)]; rfl
structure ByL (H0 H : Hp) (D : Addr) (n : Nat) (A : List A4) (df : Str → Option Addr) (lf : Str → Int → Option Addr) : Prop where
  top : ∃ kvs, H D = some (.dK kvs) ∧ kvs.length ≤ n ∧ ∀ z, valV kvs (.inr z) = (df z).map V.ref
  mid : ∀ z d, df z = some d → d ≠ D ∧ H0 d = none ∧ ∃ hv, H d = some (.dK hv) ∧ hv.length ≤ n ∧ ∀ h, valV hv (.inl h) = (lf z h).map V.ref
  dinj : ∀ z z' d, df z = some d → df z' = some d → z = z'
  low : ∀ z h L, lf z h = some L → H0 L = none ∧ (df z).isSome = true ∧ ∃ us, H L = some (.lst us) ∧ Paired (StepAt H) us (stepsOf A z h)
  linj : ∀ z h z' h' L, lf z h = some L → lf z' h' = some L → z = z' ∧ h = h'
  non : ∀ z h, lf z h = none → stepsOf A z h = []
theorem ByL.same {H0 H H' : Hp} {D : Addr} {n : Nat} {A : List A4} {df : Str → Option Addr} {lf : Str → Int → Option Addr} (b : ByL H0 H D n A df lf) (s : Same H H') : ByL H0 H' D n A df lf := by
  refine ⟨?_, fun z d e => ?_, b.dinj, fun z h L e => ?_, b.linj, b.non⟩
  · obtain ⟨kvs, h1, h2⟩ := b.top
    exact ⟨kvs, s _ _ h1, h2⟩
  · obtain ⟨h1, h2, hv, h3, h4⟩ := b.mid z d e
    exact ⟨h1, h2, hv, s _ _ h3, h4⟩
  · obtain ⟨h1, h2, us, h3, h4⟩ := b.low z h L e
    exact ⟨h1, h2, us, s _ _ h3, steps_keep (fun c xs x => s _ _ x) h4⟩
theorem ByL.more {H0 H : Hp} {D : Addr} {n m : Nat} {A : List A4} {df : Str → Option Addr} {lf : Str → Int → Option Addr} (b : ByL H0 H D n A df lf) (h : n ≤ m) : ByL H0 H D m A df lf := by
  refine ⟨?_, fun z d e => ?_, b.dinj, b.low, b.linj, b.non⟩
  · obtain ⟨kvs, h1, h2, h3⟩ := b.top
    exact ⟨kvs, h1, Nat.le_trans h2 h, h3⟩
  · obtain ⟨h1, h2, hv, h3, h4, h5⟩ := b.mid z d e
    exact ⟨h1, h2, hv, h3, Nat.le_trans h4 h, h5⟩
theorem ByL.addD {H0 H : Hp} {D E : Addr} {n : Nat} {A : List A4} {df : Str → Option Addr} {lf : Str → Int → Option Addr} (b : ByL H0 H D n A df lf) {z0 : Str} (hz : df z0 = none) {kvs : List (L2.Key × V)} (hD : H D = some (.dK kvs))
    (hE : H E = some (.dK [])) (n0 : H0 E = none) (ED : E ≠ D) (fr : ∀ z d, df z = some d → d ≠ E) :
    ByL H0 (upd H D (.dK (putK kvs (.inr z0) (.ref E)))) D (n + 1) A (fun z => if z = z0 then some E else df z) lf := by
  have nolf : ∀ h, lf z0 h = none := fun h => by
    cases e : lf z0 h with
    | none => rfl
    | some L =>
      have := (b.low z0 h L e).2.1
      rw [hz] at this
      cases this
  refine ⟨⟨_, upd_same, ?_, fun z => ?_⟩, fun z d e => ?_, fun z z' d e e' => ?_, fun z h L e => ?_, b.linj, b.non⟩
  · obtain ⟨kv2, h1, h2, _⟩ := b.top
    rw [hD] at h1
    cases h1
    have := length_putK kvs (Sum.inr z0) (V.ref E)
    omega
  · obtain ⟨kv2, h1, _, h3⟩ := b.top
    rw [hD] at h1
    cases h1
    rw [valV_put, h3]
    by_cases c : z = z0
    · subst c; rw [if_pos rfl, if_pos rfl]; rfl
    · rw [if_neg (fun x => c (Sum.inr.inj x)), if_neg c]
  · by_cases c : z = z0
    · rw [if_pos c] at e
      cases e
      refine ⟨ED, n0, [], by rw [upd_ne ED]; exact hE, Nat.zero_le _, fun h => ?_⟩
      rw [c, nolf]
      rfl
    · rw [if_neg c] at e
      obtain ⟨h1, h2, hv, h3, h4, h5⟩ := b.mid z d e
      exact ⟨h1, h2, hv, by rw [upd_ne h1]; exact h3, Nat.le_succ_of_le h4, h5⟩
  · by_cases c : z = z0
    · by_cases c' : z' = z0
      · rw [c, c']
      · rw [if_pos c] at e
        rw [if_neg c'] at e'
        cases e
        exact absurd rfl (fr _ _ e')
    · by_cases c' : z' = z0
      · rw [if_neg c] at e
        rw [if_pos c'] at e'
        cases e'
        exact absurd rfl (fr _ _ e)
      · rw [if_neg c] at e
        rw [if_neg c'] at e'
        exact b.dinj z z' d e e'
  · obtain ⟨h1, h2, us, h3, h4⟩ := b.low z h L e
    have LD : L ≠ D := fun x => by rw [x, hD] at h3; cases h3
    refine ⟨h1, ?_, us, by rw [upd_ne LD]; exact h3, steps_keep (fun c xs x => by rw [upd_ne (fun y => by rw [y, hD] at x; cases x)]; exact x) h4⟩
    by_cases c : z = z0
    · rw [if_pos c]; rfl
    · rw [if_neg c]; exact h2
theorem ByL.addL {H0 H : Hp} {D E d : Addr} {n : Nat} {A : List A4} {df : Str → Option Addr} {lf : Str → Int → Option Addr} (b : ByL H0 H D n A df lf) {z0 : Str} {k0 : Int} (hd : df z0 = some d) (hl : lf z0 k0 = none) {hv : List (L2.Key × V)} (hH : H d = some (.dK hv))
    (hE : H E = some (.lst [])) (n0 : H0 E = none) (fr : ∀ z h L, lf z h = some L → L ≠ E) :
    ByL H0 (upd H d (.dK (putK hv (.inl k0) (.ref E)))) D (n + 1) A df (fun z h => if z = z0 ∧ h = k0 then some E else lf z h) := by
  obtain ⟨dD, d0, hv2, m1, m2, m3⟩ := b.mid z0 d hd
  rw [hH] at m1
  cases m1
  have Ed : E ≠ d := fun x => by rw [x, hH] at hE; cases hE
  refine ⟨?_, fun z d' e => ?_, b.dinj, fun z h L e => ?_, fun z h z' h' L e e' => ?_, fun z h e => ?_⟩
  · obtain ⟨kvs, h1, h2, h3⟩ := b.top
    exact ⟨kvs, by rw [upd_ne dD.symm]; exact h1, Nat.le_succ_of_le h2, h3⟩
  · obtain ⟨h1, h2, hw, h3, h4, h5⟩ := b.mid z d' e
    by_cases c : d' = d
    · subst c
      have ez : z = z0 := b.dinj z z0 d' e hd
      subst ez
      refine ⟨h1, h2, _, upd_same, ?_, fun h => ?_⟩
      · have := length_putK hv (Sum.inl k0) (V.ref E)
        omega
      · rw [valV_put, m3]
        by_cases c : h = k0
        · subst c; rw [if_pos rfl, if_pos ⟨rfl, rfl⟩]; rfl
        · rw [if_neg (fun x => c (Sum.inl.inj x)), if_neg (fun x => c x.2)]
    · refine ⟨h1, h2, hw, by rw [upd_ne c]; exact h3, Nat.le_succ_of_le h4, fun h => ?_⟩
      rw [h5, if_neg (fun x => c (by rw [x.1, hd] at e; exact (Option.some.inj e).symm))]
  · by_cases c : z = z0 ∧ h = k0
    · rw [if_pos c] at e
      cases e
      refine ⟨n0, by rw [c.1, hd]; rfl, [], by rw [upd_ne Ed]; exact hE, ?_⟩
      rw [c.1, c.2, b.non z0 k0 hl]
      exact .nil
    · rw [if_neg c] at e
      obtain ⟨h1, h2, us, h3, h4⟩ := b.low z h L e
      have Ld : L ≠ d := fun x => by rw [x, hH] at h3; cases h3
      exact ⟨h1, h2, us, by rw [upd_ne Ld]; exact h3, steps_keep (fun c xs x => by rw [upd_ne (fun y => by rw [y, hH] at x; cases x)]; exact x) h4⟩
  · by_cases c : z = z0 ∧ h = k0
    · by_cases c' : z' = z0 ∧ h' = k0
      · exact ⟨c.1.trans c'.1.symm, c.2.trans c'.2.symm⟩
      · rw [if_pos c] at e
        rw [if_neg c'] at e'
        cases e
        exact absurd rfl (fr _ _ _ e')
    · by_cases c' : z' = z0 ∧ h' = k0
      · rw [if_neg c] at e
        rw [if_pos c'] at e'
        cases e'
        exact absurd rfl (fr _ _ _ e)
      · rw [if_neg c] at e
        rw [if_neg c'] at e'
        exact b.linj z h z' h' L e e'
  · by_cases c : z = z0 ∧ h = k0
    · rw [if_pos c] at e; cases e
    · rw [if_neg c] at e; exact b.non z h e
theorem ByL.put {H0 H : Hp} {D L q : Addr} {n : Nat} {A : List A4} {df : Str → Option Addr} {lf : Str → Int → Option Addr} (b : ByL H0 H D n A df lf) {x : A4} (hl : lf x.l (x.k : Int) = some L) {us : List V} (hL : H L = some (.lst us))
    (hq : H q = some (.tup [.int (x.j : Int), .int x.t])) : ByL H0 (upd H L (.lst (us ++ [.ref q]))) D n (A ++ [x]) df lf := by
  have kt : ∀ c xs, H c = some (.tup xs) → (upd H L (.lst (us ++ [.ref q]))) c = some (.tup xs) := fun c xs e => tup_upd hL e
  have kd : ∀ c kv, H c = some (.dK kv) → (upd H L (.lst (us ++ [.ref q]))) c = some (.dK kv) := fun c kv e => by rw [upd_ne (fun y => by rw [y, hL] at e; cases e)]; exact e
  refine ⟨?_, fun z d e => ?_, b.dinj, fun z h L' e => ?_, b.linj, fun z h e => ?_⟩
  · obtain ⟨kvs, h1, h2⟩ := b.top
    exact ⟨kvs, kd _ _ h1, h2⟩
  · obtain ⟨h1, h2, hv, h3, h4⟩ := b.mid z d e
    exact ⟨h1, h2, hv, kd _ _ h3, h4⟩
  · obtain ⟨h1, h2, us', h3, h4⟩ := b.low z h L' e
    rw [stepsOf_snoc]
    by_cases c : L' = L
    · subst c
      obtain ⟨e1, e2⟩ := b.linj z h x.l (x.k : Int) L' e hl
      rw [hL] at h3
      cases h3
      refine ⟨h1, h2, _, upd_same, ?_⟩
      rw [if_pos ⟨e1.symm, e2.symm⟩]
      exact Paired.snoc (steps_keep kt h4) ⟨q, rfl, kt _ _ hq⟩
    · refine ⟨h1, h2, us', by rw [upd_ne c]; exact h3, ?_⟩
      rw [if_neg (fun y => c (by rw [← y.1, ← y.2, hl] at e; exact (Option.some.inj e).symm)), List.append_nil]
      exact steps_keep kt h4
  · rw [stepsOf_snoc, b.non z h e, if_neg (fun y => by rw [← y.1, ← y.2, hl] at e; cases e)]
    rfl
def A4S (K : PySem.W.Frag) (H : Hp) (v : V) (a : A4) : Prop := ∃ q, v = .ref q ∧ SqT K H q [.int (a.k : Nat), .str a.l, .int (a.j : Nat), .int a.t]
theorem a4s_grow {K : PySem.W.Frag} {H H' : Hp} (e : Same H H') : ∀ {vs : List V} {as : List A4}, Paired (A4S K H) vs as → Paired (A4S K H') vs as
  | _, _, .nil => .nil
  | _, _, .cons ⟨q, h1, h2⟩ t => .cons ⟨q, h1, seqT_grow e h2⟩ (a4s_grow e t)
theorem a4s_data {K : PySem.W.Frag} {H : Hp} : ∀ {as : List A4} {vs : List V}, DpAll K H vs (as.map a4D) → Paired (A4S K H) vs as
  | [], _, h => by cases h; exact .nil
  | a :: as, _, h => by
    cases h with
    | cons h1 h2 =>
      obtain ⟨q, e, hq⟩ := dp_four h1
      exact .cons ⟨q, e, hq⟩ (a4s_data h2)
section
variable {P : Program} {w : World} {K : PySem.W.Frag} {mg : Str → Option Value} {base : Heap}
def sp_arcs_by_letter (K : PySem.W.Frag) : Sp := fun vs H Q _ => ∃ (a : Addr) (va : List V) (A : List A4), vs = [.ref a] ∧ SqT K H a va ∧ Paired (A4S K H) va A ∧ A.length ≤ 2400000 ∧
  ∀ D H' df lf, Same H H' → ByL H H' D (2 * A.length) A df lf → Q (.ref D) H'
theorem ok_arcs_by_letter (T : Tx K mg) : FnOk P w K mg base CX0 1 T.f_arcs_by_letter T.d_arcs_by_letter ["arcs"] (sp_arcs_by_letter K) := by
  refine T.F_arcs_by_letter.ok sc_arcs_by_letter (fun vs H Q E h => ?_) (fun cdv A outer s H vs Q E hr h => ?_)
  · obtain ⟨a, va, A, rfl, _⟩ := h; rfl
  · obtain ⟨a, va, A, rfl, hva, hA, lA, q⟩ := h
    refine ⟨_, (pss_cons (ps_set (i := 1) sc_arcs_by_letter.nd rfl (Or.inl rfl) pe_dnewK)
    (pss_cons (ps_for PassesOwn.never rfl (pi_tup (pv 0)) (pg_tup (by rfl) (pgs_cons (pg_name (i := 2) sc_arcs_by_letter.nd rfl (Or.inl rfl)) (pgs_cons (pg_name (i := 3) sc_arcs_by_letter.nd rfl (Or.inl rfl)) (pgs_cons (pg_name (i := 4) sc_arcs_by_letter.nd rfl (Or.inl rfl)) (pgs_cons (pg_name (i := 5) sc_arcs_by_letter.nd rfl (Or.inl rfl)) pgs_nil)))))
    (pss_one (ps_expr (pe_bm PySem.F.plainAttrs_list PySem.F.slot_list_append PySem.F.type_list_append mt_append (pe_dsetd (pe_dsetd (pv 1) (pv 3) pe_dnewK ⟨rfl, rfl, rfl, rfl⟩) (pv 2) (pe_lst pa_nil) ⟨rfl, rfl, rfl, rfl⟩) (pa_cons (pe_tup (pa_cons (pv 4) (pa_cons (pv 5) pa_nil))) pa_nil)))))
    (pss_one (ps_ret (pv 1))))), ?_⟩
    refine fun D nD => ?_
    have sD := same_new (o := .dK []) nD
    have hD : (upd H D (.dK [])) D = some (.dK []) := upd_same
    generalize upd H D (.dK []) = H1 at sD hD ⊢
    refine ⟨.ref a, rfl, a, rfl, ⟨_, seqT_grow sD hva⟩, ?_⟩
    have lva : va.length = A.length := Paired.length hA
    refine for_tup (K := K) (a := a) (xs := va) (fun i σ H' => ∃ (y2 y3 y4 y5 : Option V) (df : Str → Option Addr) (lf : Str → Int → Option Addr), σ = [some (.ref a), some (.ref D), y2, y3, y4, y5] ∧ Same H H' ∧ ByL H H' D (2 * i) (A.take i) df lf)
      ⟨none, none, none, none, fun _ => none, fun _ _ => none, rfl, sD, ⟨[], hD, Nat.zero_le _, fun _ => rfl⟩, (fun _ _ e => by cases e), (fun _ _ _ e => by cases e), (fun _ _ _ e => by cases e), (fun _ _ _ _ _ e => by cases e), fun _ _ _ => rfl⟩ (fun i σ H' _ h => ?_) (fun i x σ H' ex h => ?_) (fun σ H' h => ?_)
    · obtain ⟨_, _, _, _, _, _, _, s, _⟩ := h
      exact seqT_grow s hva
    · obtain ⟨y2, y3, y4, y5, df, lf, rfl, s2, bl⟩ := h
      have lti := (List.getElem?_eq_some_iff.mp ex).1
      have ea : A[i]? = some (A[i]'(by omega)) := List.getElem?_eq_getElem _
      generalize A[i]'(by omega) = ar at ea
      obtain ⟨q0, rfl, hq0'⟩ : A4S K H x ar := by
        have := paired_zip hA (x, ar) (List.mem_of_getElem? (i := i) (by rw [List.getElem?_zip_eq_some]; exact ⟨ex, ea⟩))
        exact this
      have hq0 := seqT_grow s2 hq0'
      refine ⟨q0, _, rfl, hq0, rfl, .int (ar.k : Nat), _, rfl, .str ar.l, _, rfl, .int (ar.j : Nat), _, rfl, .int ar.t, _, rfl, rfl, ?_⟩
      have fin : ∀ (H5 : Hp) (df : Str → Option Addr) (lf : Str → Int → Option Addr) (L : Addr), Same H H5 → ByL H H5 D (2 * (i + 1)) (A.take i) df lf → lf ar.l (ar.k : Int) = some L →
          ∃ us, H5 L = some (.lst us) ∧ us.length < sizeLine ∧ ∀ q H6, Same H5 H6 → H6 L = some (.lst us) → H6 q = some (.tup [.int (ar.j : Int), .int ar.t]) → Same H (upd H6 L (.lst (us ++ [.ref q]))) ∧ ByL H (upd H6 L (.lst (us ++ [.ref q]))) D (2 * (i + 1)) (A.take (i + 1)) df lf := fun H5 df lf L s5 b5 el => by
        obtain ⟨L0, _, us, hL, hP⟩ := b5.low _ _ _ el
        have lus := Paired.length hP
        have l2 : (stepsOf (A.take i) ar.l (ar.k : Int)).length ≤ A.length := by
          unfold stepsOf
          rw [List.length_map]
          refine Nat.le_trans (List.length_filter_le _ _) ?_
          rw [List.length_take]
          omega
        refine ⟨us, hL, big (by omega), fun q H6 s6 hL6 hq6 => ⟨same_upd2 (s5.trans s6) L0, ?_⟩⟩
        rw [take_snoc ea]
        exact (b5.same s6).put el hL6 hq6
      have two : ∀ (H4 : Hp) (df : Str → Option Addr) (d : Addr), Same H H4 → ByL H H4 D (2 * i + 1) (A.take i) df lf → df ar.l = some d →
          ∃ hv, H4 d = some (.dK hv) ∧ hv.length < sizeLine ∧ ∀ E2 H5, Same H4 H5 → H4 E2 = none → H5 E2 = some (.lst []) →
            (∀ v, valV hv (.inl (ar.k : Int)) = some v → ∃ L, v = .ref L ∧ Same H H5 ∧ ByL H H5 D (2 * (i + 1)) (A.take i) df lf ∧ lf ar.l (ar.k : Int) = some L) ∧
            (valV hv (.inl (ar.k : Int)) = none → ∃ lf', Same H (upd H5 d (.dK (putK hv (.inl (ar.k : Int)) (.ref E2)))) ∧ ByL H (upd H5 d (.dK (putK hv (.inl (ar.k : Int)) (.ref E2)))) D (2 * (i + 1)) (A.take i) df lf' ∧ lf' ar.l (ar.k : Int) = some E2) := fun H4 df d s4 b4 ed => by
        obtain ⟨dD, d0, hv, h1, h2, h3⟩ := b4.mid _ _ ed
        refine ⟨hv, h1, big (by omega), fun E2 H5 s5 nE2 hE2 => ⟨fun v ev => ?_, fun hn => ?_⟩⟩
        · rw [h3] at ev
          cases el : lf ar.l (ar.k : Int) with
          | none => rw [el] at ev; cases ev
          | some L =>
            rw [el] at ev
            exact ⟨L, (Option.some.inj ev).symm, s4.trans s5, (b4.same s5).more (by omega), rfl⟩
        · rw [h3] at hn
          have el : lf ar.l (ar.k : Int) = none := by
            cases e : lf ar.l (ar.k : Int) with
            | none => rfl
            | some L => rw [e] at hn; cases hn
          refine ⟨_, same_upd2 (s4.trans s5) d0, ((b4.same s5).addL ed el (s5 _ _ h1) hE2 (s4.free nE2) (fun z h L e => ?_)).more (by omega), if_pos ⟨rfl, rfl⟩⟩
          intro x
          obtain ⟨_, _, us, hL, _⟩ := b4.low z h L e
          rw [x, nE2] at hL
          cases hL
      obtain ⟨kvs, hD2, lk, hk⟩ := bl.top
      refine ⟨.ref D, rfl, D, rfl, .inl ⟨_, .inl hD2⟩, .str ar.l, rfl, fun E nE => ?_⟩
      have sE := same_new (o := .dK []) nE
      have hE : (upd H' E (.dK [])) E = some (.dK []) := upd_same
      generalize upd H' E (.dK []) = H3 at sE hE ⊢
      have hD3 := sE _ _ hD2
      have ED : E ≠ D := fun e => by rw [e, hD2] at nE; cases nE
      refine ⟨kvs, .inr ar.l, hD3, rfl, big (by omega), fun v ev => ?_, fun hn => ?_⟩
      · rw [hk] at ev
        obtain ⟨d, rfl, s4, b4, ed⟩ : ∃ d, v = .ref d ∧ Same H H3 ∧ ByL H H3 D (2 * i + 1) (A.take i) df lf ∧ df ar.l = some d := by
          cases ed : df ar.l with
          | none => rw [ed] at ev; cases ev
          | some d =>
            rw [ed] at ev
            exact ⟨d, (Option.some.inj ev).symm, s2.trans sE, (bl.same sE).more (Nat.le_succ _), rfl⟩
        obtain ⟨hv, hH, lh, f2⟩ := two _ _ d s4 b4 ed
        refine ⟨d, rfl, .inl ⟨_, .inl hH⟩, .int (ar.k : Nat), rfl, Nat.zero_le _, fun E2 nE2 => ?_⟩
        have sE2 := same_new (o := .lst []) nE2
        obtain ⟨g1, g2⟩ := f2 E2 _ sE2 nE2 upd_same
        refine ⟨hv, .inl (ar.k : Int), sE2 _ _ hH, rfl, lh, fun v ev => ?_, fun hn => ?_⟩
        · obtain ⟨L, rfl, s5, b5, el⟩ := g1 v ev
          obtain ⟨us, hL, lu, f⟩ := fin _ _ _ _ s5 b5 el
          refine ⟨.inl ⟨rfl, _, .inl (.inl hL)⟩, .int (ar.j : Nat), rfl, .int ar.t, rfl, small' (by simp), fun q nq => ?_⟩
          have sq := same_new (o := .tup [V.int (ar.j : Nat), V.int ar.t]) nq
          obtain ⟨s7, b7⟩ := f q _ sq (sq _ _ hL) upd_same
          exact ⟨_, us, .ref q, rfl, rfl, sq _ _ hL, lu, _, _, _, _, _, _, rfl, s7, b7⟩
        · obtain ⟨lf', s5, b5, el⟩ := g2 hn
          obtain ⟨us, hL, lu, f⟩ := fin _ _ _ _ s5 b5 el
          refine ⟨.inl ⟨rfl, _, .inl (.inl hL)⟩, .int (ar.j : Nat), rfl, .int ar.t, rfl, small' (by simp), fun q nq => ?_⟩
          have sq := same_new (o := .tup [V.int (ar.j : Nat), V.int ar.t]) nq
          obtain ⟨s7, b7⟩ := f q _ sq (sq _ _ hL) upd_same
          exact ⟨_, us, .ref q, rfl, rfl, sq _ _ hL, lu, _, _, _, _, _, _, rfl, s7, b7⟩
      · rw [hk] at hn
        have ed0 : df ar.l = none := by
          cases e : df ar.l with
          | none => rfl
          | some d => rw [e] at hn; cases hn
        have frE : ∀ z d, df z = some d → d ≠ E := fun z d e x => by
          obtain ⟨_, _, hv, h3, _⟩ := bl.mid z d e
          rw [x, nE] at h3
          cases h3
        have b4 := (bl.same sE).addD ed0 hD3 hE (s2.free nE) ED frE
        have s4 : Same H (upd H3 D (.dK (putK kvs (.inr ar.l) (.ref E)))) := same_upd2 (s2.trans sE) nD
        obtain ⟨d, ed', ed⟩ : ∃ d, d = E ∧ (fun z => if z = ar.l then some E else df z) ar.l = some d := ⟨E, rfl, if_pos rfl⟩
        rw [← ed'] at b4 s4 ed ⊢
        obtain ⟨hv, hH, lh, f2⟩ := two _ _ d s4 b4 ed
        refine ⟨d, rfl, .inl ⟨_, .inl hH⟩, .int (ar.k : Nat), rfl, Nat.zero_le _, fun E2 nE2 => ?_⟩
        have sE2 := same_new (o := .lst []) nE2
        obtain ⟨g1, g2⟩ := f2 E2 _ sE2 nE2 upd_same
        refine ⟨hv, .inl (ar.k : Int), sE2 _ _ hH, rfl, lh, fun v ev => ?_, fun hn => ?_⟩
        · obtain ⟨L, rfl, s5, b5, el⟩ := g1 v ev
          obtain ⟨us, hL, lu, f⟩ := fin _ _ _ _ s5 b5 el
          refine ⟨.inl ⟨rfl, _, .inl (.inl hL)⟩, .int (ar.j : Nat), rfl, .int ar.t, rfl, small' (by simp), fun q nq => ?_⟩
          have sq := same_new (o := .tup [V.int (ar.j : Nat), V.int ar.t]) nq
          obtain ⟨s7, b7⟩ := f q _ sq (sq _ _ hL) upd_same
          exact ⟨_, us, .ref q, rfl, rfl, sq _ _ hL, lu, _, _, _, _, _, _, rfl, s7, b7⟩
        · obtain ⟨lf', s5, b5, el⟩ := g2 hn
          obtain ⟨us, hL, lu, f⟩ := fin _ _ _ _ s5 b5 el
          refine ⟨.inl ⟨rfl, _, .inl (.inl hL)⟩, .int (ar.j : Nat), rfl, .int ar.t, rfl, small' (by simp), fun q nq => ?_⟩
          have sq := same_new (o := .tup [V.int (ar.j : Nat), V.int ar.t]) nq
          obtain ⟨s7, b7⟩ := f q _ sq (sq _ _ hL) upd_same
          exact ⟨_, us, .ref q, rfl, rfl, sq _ _ hL, lu, _, _, _, _, _, _, rfl, s7, b7⟩
    · obtain ⟨y2, y3, y4, y5, df, lf, rfl, s2, bl⟩ := h
      rw [lva, List.take_length] at bl
      exact ⟨.ref D, rfl, q D H' df lf s2 bl⟩
end
end K58
set_option Elab.async false
set_option linter.all false
set_option maxRecDepth 100000
set_option maxHeartbeats 2000000
namespace K58
open PySem PySem.Spec PyProof.Rows L2 Ver
def walkB (A : List A4) (cs : List Nat) (l : List (Int × Int)) : List (Int × Int) := cs.foldl (fun l c => behindL l (stepsOf A (oneS c))) l
structure KeysOk (n : Nat) (l : List (Int × Int)) : Prop where
  nd : (l.map (·.1)).Nodup
  rng : ∀ k ∈ l.map (·.1), 0 ≤ k ∧ k < (n : Int)
theorem look_none {l : List (Int × Int)} {t : Int} (h : look l t = none) : t ∉ l.map (·.1) := fun m => by
  obtain ⟨x, hx, e⟩ := List.mem_map.mp m
  unfold look at h
  cases q : l.find? (fun x => decide (x.1 = t)) with
  | none =>
    have := List.find?_eq_none.mp q x hx
    exact this (decide_eq_true e)
  | some y => rw [q] at h; cases h
theorem KeysOk.putL {n : Nat} {l : List (Int × Int)} (o : KeysOk n l) {t v : Int} (h0 : 0 ≤ t) (h1 : t < (n : Int)) : KeysOk n (putL l t v) := by
  unfold K58.putL
  by_cases c : (look l t).isSome = true
  · rw [if_pos c]
    have e : (l.map fun x => if x.1 = t then (x.1, v) else x).map (·.1) = l.map (·.1) := by
      rw [List.map_map]
      refine List.map_congr_left fun x _ => ?_
      show (if x.1 = t then (x.1, v) else x).1 = x.1
      split <;> rfl
    exact ⟨by rw [e]; exact o.nd, by rw [e]; exact o.rng⟩
  · rw [if_neg c]
    have hn : look l t = none := by
      cases q : look l t with
      | none => rfl
      | some y => rw [q] at c; exact absurd rfl c
    refine ⟨?_, fun k hk => ?_⟩
    · rw [List.map_append]
      exact List.nodup_append.mpr ⟨o.nd, List.pairwise_singleton _ _, fun a ha b hb e => look_none hn (by have e2 : b = t := List.mem_singleton.mp hb; rw [← e2, ← e]; exact ha)⟩
    · rw [List.map_append] at hk
      rcases List.mem_append.mp hk with hk | hk
      · exact o.rng k hk
      · rw [List.mem_singleton.mp hk]; exact ⟨h0, h1⟩
theorem KeysOk.putMin {n : Nat} {l : List (Int × Int)} (o : KeysOk n l) {t v : Int} (h0 : 0 ≤ t) (h1 : t < (n : Int)) : KeysOk n (putMin l t v) := by
  unfold K58.putMin
  split
  · exact o.putL h0 h1
  · split
    · exact o.putL h0 h1
    · exact o
theorem fold_keys {n : Nat} {p : Int} : ∀ {ys : List (Int × Int)}, (∀ y ∈ ys, 0 ≤ y.1 ∧ y.1 < (n : Int)) → ∀ {acc : List (Int × Int)}, KeysOk n acc → KeysOk n (ys.foldl (fun acc y => putMin acc y.1 (p + y.2)) acc)
  | [], _, _, o => o
  | y :: ys, h, _, o => fold_keys (ys := ys) (fun z hz => h z (List.mem_cons_of_mem _ hz)) (o.putMin (h y List.mem_cons_self).1 (h y List.mem_cons_self).2)
theorem behind_keys {n : Nat} {st : Int → List (Int × Int)} (h : ∀ k, ∀ y ∈ st k, 0 ≤ y.1 ∧ y.1 < (n : Int)) (l : List (Int × Int)) : KeysOk n (behindL l st) := by
  unfold behindL
  have : ∀ (l : List (Int × Int)) {acc : List (Int × Int)}, KeysOk n acc → KeysOk n (l.foldl (fun acc x => (st x.1).foldl (fun acc y => putMin acc y.1 (x.2 + y.2)) acc) acc) := fun l => by
    induction l with
    | nil => exact fun o => o
    | cons x l ih => exact fun o => ih (fold_keys (h x.1) o)
  exact this l ⟨List.nodup_nil, fun k hk => by cases hk⟩
theorem KeysOk.len {n : Nat} {l : List (Int × Int)} (o : KeysOk n l) : l.length ≤ n := by
  have := nodup_len (m := (List.range n).map fun k => ((k : Nat) : Int)) o.nd fun k hk => by
    obtain ⟨h0, h1⟩ := o.rng k hk
    exact List.mem_map.mpr ⟨k.toNat, List.mem_range.mpr (by omega), by omega⟩
  rw [List.length_map, List.length_map, List.length_range] at this
  exact this
theorem stepsOf_rng {n : Nat} {A : List A4} (h : ∀ a ∈ A, a.j < n) (z : Str) (k : Int) : ∀ y ∈ stepsOf A z k, 0 ≤ y.1 ∧ y.1 < (n : Int) := fun y hy => by
  obtain ⟨a, ha, rfl⟩ := List.mem_map.mp hy
  have := h a (List.mem_filter.mp ha).1
  exact ⟨by show (0 : Int) ≤ (a.j : Int); omega, by show (a.j : Int) < (n : Int); omega⟩
theorem stepsOf_len (A : List A4) (z : Str) (k : Int) : (stepsOf A z k).length ≤ A.length := by
  unfold stepsOf
  rw [List.length_map]
  exact List.length_filter_le _ _
theorem ByL.steps {H0 H : Hp} {D E : Addr} {n : Nat} {A : List A4} {df : Str → Option Addr} {lf : Str → Int → Option Addr} (b : ByL H0 H D n A df lf) (z : Str) (hE : H E = some (.dK [])) :
    ∃ b', ((df z).map V.ref).getD (.ref E) = .ref b' ∧ StepsAt H b' (stepsOf A z) ∧ (b' = E ∨ df z = some b') := by
  cases e : df z with
  | none =>
    refine ⟨E, rfl, ⟨[], hE, fun h => .inl ⟨rfl, b.non z h ?_⟩⟩, .inl rfl⟩
    cases el : lf z h with
    | none => rfl
    | some L =>
      have := (b.low z h L el).2.1
      rw [e] at this
      cases this
  | some d =>
    obtain ⟨_, _, hv, h1, _, h3⟩ := b.mid z d e
    refine ⟨d, rfl, ⟨hv, h1, fun h => ?_⟩, .inr rfl⟩
    rw [h3]
    cases el : lf z h with
    | none => exact .inl ⟨rfl, b.non z h el⟩
    | some L =>
      obtain ⟨_, _, us, h4, h5⟩ := b.low z h L el
      exact .inr ⟨L, us, rfl, h4, h5⟩
def optV : Option Int → V
  | none => .non
  | some i => .int i
section
variable {P : Program} {w : World} {K : PySem.W.Frag} {mg : Str → Option Value} {base : Heap}
def sp_text_price (K : PySem.W.Frag) (C : Addr) : Sp := fun vs H Q E => ∃ (m a : Addr) (n : Nat) (h t : Int) (z : Str) (va : List V) (A : List A4), vs = [.ref m, .int h, .int t, .str z] ∧ SqT K H m [.int n, .ref a] ∧ SqT K H a va ∧ Paired (A4S K H) va A ∧ 0 ≤ h ∧ h < n ∧ 0 ≤ t ∧ t < n ∧ textD (.str z) = true ∧ z.length ≤ 1200 ∧ n ≤ 1000 ∧ A.length ≤ 5000 ∧ (∀ a ∈ A, a.j < n) ∧
  ∀ H', Same H H' → Q (optV (look (walkB A z.cps.toList [(h, 0)]) t)) H'
theorem ok_text_price (T : Tx K mg) : FnOk P w K mg base (L2.CX P w) 5 T.f_text_price T.d_text_price ["machine", "here", "there", "text"] (sp_text_price K T.C_NotUsable) := by
  refine T.F_text_price.okX sc_text_price (fun vs H Q E h => ?_) (fun cdv A outer s H vs Q E hr h => ?_)
  · obtain ⟨m, a, n, h, t, z, va, A, rfl, _⟩ := h; rfl
  · obtain ⟨m, a, n, h, t, z, va, A, rfl, hm, ha, hA, h0, h1, t0, t1, hz, z12, n1, lA, rng, q⟩ := h
    refine ⟨_, (pss_cons (ps_asg (pv 0) (pg_tup (by rfl) (pgs_cons (pg_name (i := 4) sc_text_price.nd rfl (Or.inl rfl)) (pgs_cons (pg_name (i := 5) sc_text_price.nd rfl (Or.inl rfl)) pgs_nil))))
    (pss_cons (ps_expr (pe_call (ok_ask_below T) hr rfl T.g_ask_below T.F_ask_below.kp T.b_ask_below .nil (passes_call (takes_of rfl rfl rfl rfl) (fun _ _ _ _ h => h)) (pa_cons (pv 1) (pa_cons (pv 4) (pa_cons pe_str pa_nil)))))
    (pss_cons (ps_expr (pe_call (ok_ask_below T) hr rfl T.g_ask_below T.F_ask_below.kp T.b_ask_below .nil (passes_call (takes_of rfl rfl rfl rfl) (fun _ _ _ _ h => h)) (pa_cons (pv 2) (pa_cons (pv 4) (pa_cons pe_str pa_nil)))))
    (pss_cons (ps_expr (pe_call (ok_ask_text T) (hr.mono (by decide)) rfl T.g_ask_text T.F_ask_text.kp T.b_ask_text .nil (passes_call (takes_of rfl rfl rfl rfl) (fun _ _ _ _ h => h)) (pa_cons (pv 3) pa_nil)))
    (pss_cons (ps_set (i := 6) sc_text_price.nd rfl (Or.inl rfl) (pe_call (ok_arcs_by_letter T) (hr.mono (by decide)) rfl T.g_arcs_by_letter T.F_arcs_by_letter.kp T.b_arcs_by_letter .nil pass0 (pa_cons (pv 5) pa_nil)))
    (pss_cons (ps_set (i := 7) sc_text_price.nd rfl (Or.inl rfl) (pe_disp (pps_cons (pv 1) pe_int pps_nil) rfl rfl (List.cons_ne_nil _ _) (by decide)))
    (pss_cons (ps_for (passes_of rfl) rfl (pi_str (pv 3)) (pg_name (i := 8) sc_text_price.nd rfl (Or.inl rfl))
    (pss_one (ps_set (i := 7) sc_text_price.nd rfl (Or.inl rfl) (pe_call (ok__prices_behind T) (hr.mono (by decide)) rfl T.g__prices_behind T.F__prices_behind.kp T.b__prices_behind .nil pass0 (pa_cons (pv 7) (pa_cons (pe_dget2 (hu_of hr) (pv 6) (pv 8) pe_dnewK ⟨rfl, rfl, rfl, rfl⟩) pa_nil))))))
    (pss_one (ps_ret (pe_dget1 (hu_of hr) (pv 7) (pv 2) ⟨rfl, rfl, rfl, rfl⟩)))))))))), ?_⟩
    have below : ∀ i : Int, 0 ≤ i → i < (n : Int) → belowD (n : Int) (.int i) = true := fun i a b => by
      show (decide (0 ≤ i) && decide (i < (n : Int))) = true
      rw [decide_eq_true a, decide_eq_true b]; rfl
    refine ⟨.ref m, rfl, m, _, rfl, hm, rfl, .int (n : Nat), _, rfl, .ref a, _, rfl, rfl, ?_⟩
    refine ⟨.int h, rfl, .int (n : Nat), rfl, .int h, .int h, (n : Nat), "here", rfl, .int h, fun _ => ?_, fun no => absurd ((below h h0 h1).symm.trans no) (by decide)⟩
    refine ⟨.int t, rfl, .int (n : Nat), rfl, .int t, .int t, (n : Nat), "there", rfl, .int t, fun _ => ?_, fun no => absurd ((below t t0 t1).symm.trans no) (by decide)⟩
    refine ⟨.str z, rfl, .str z, .str z, rfl, .str z, by show z.length ≤ 5000; omega, fun _ _ H1 s1 => ?_, fun no => absurd ⟨hz, z12⟩ no⟩
    refine ⟨.ref a, rfl, a, va, A, rfl, seqT_grow s1 ha, a4s_grow s1 hA, by omega, fun D H2 df lf s2 bl => ?_⟩
    have s02 := s1.trans s2
    refine fun N nN => ?_
    refine ⟨.int h, rfl, upd_same, [(.inl h, .int 0)], rfl, by show 1 ≤ 15; decide, ?_⟩
    have sN : Same H1 (upd (upd H2 N (.dK [])) N (.dK (mergeK [] [(Sum.inl h, V.int 0)]))) := same_upd2 (s2.trans (same_new nN)) (s2.free nN)
    have sN2 : Same H2 (upd (upd H2 N (.dK [])) N (.dK (mergeK [] [(Sum.inl h, V.int 0)]))) := same_upd2 (same_new nN) nN
    have hN : (upd (upd H2 N (.dK [])) N (.dK (mergeK [] [(Sum.inl h, V.int 0)]))) N = some (.dK (prcK [(h, 0)])) := upd_same
    generalize upd (upd H2 N (.dK [])) N (.dK (mergeK [] [(Sum.inl h, V.int 0)])) = H3 at sN sN2 hN ⊢
    have bl3 := bl.same sN2
    have dN : ∀ zz d, df zz = some d → d ≠ N := fun zz d e x => by
      obtain ⟨_, _, hv, h3, _⟩ := bl.mid zz d e
      rw [x, nN] at h3
      cases h3
    have k0 : KeysOk n [(h, 0)] := ⟨List.pairwise_singleton _ _, fun k hk => by rw [List.mem_singleton.mp hk]; exact ⟨h0, h1⟩⟩
    refine ⟨.str z, rfl, z, rfl, ?_⟩
    have lz : z.cps.toList.length = z.length := by rw [Array.length_toList]; rfl
    refine for_str (x := z) (fun i σ H' => ∃ (N : Addr) (l : List (Int × Int)) (y8 : Option V), σ = [some (.ref m), some (.int h), some (.int t), some (.str z), some (.int (n : Nat)), some (.ref a), some (.ref D), some (.ref N), y8] ∧ Same H3 H' ∧ H' N = some (.dK (prcK l)) ∧ l = walkB A (z.cps.toList.take i) [(h, 0)] ∧ KeysOk n l ∧ ∀ zz d, df zz = some d → d ≠ N)
      ⟨N, [(h, 0)], none, rfl, Same.refl H3, hN, rfl, k0, dN⟩ (fun i c σ H' ec h => ?_) (fun σ H' h => ?_)
    · obtain ⟨N, l, y8, rfl, s4, hN4, el, ko, dN⟩ := h
      have ec2 : z.cps.toList[i]? = some c := by rw [Array.getElem?_toList]; exact ec
      obtain ⟨kvs, hD, _, hk⟩ := (bl3.same s4).top
      refine ⟨.ref N, rfl, .ref D, rfl, D, rfl, .inl ⟨_, .inl hD⟩, .str ⟨#[c]⟩, rfl, fun E nE => ?_⟩
      have sE := same_new (o := .dK []) nE
      have hE : (upd H' E (.dK [])) E = some (.dK []) := upd_same
      generalize upd H' E (.dK []) = H5 at sE hE ⊢
      have g := DGet.k (k := Sum.inr (oneS c)) (sE _ _ hD)
      rw [hk] at g
      obtain ⟨b', e1, st, e2⟩ := ((bl3.same s4).same sE).steps (oneS c) hE
      have Nb : N ≠ b' := by
        rcases e2 with e2 | e2
        · intro x
          rw [e2] at x
          rw [x, nE] at hN4
          cases hN4
        · exact (dN _ _ e2).symm
      refine ⟨_, g, ?_⟩
      rw [e1]
      have lko := ko.len
      refine ⟨N, b', l, stepsOf A (oneS c), rfl, sE _ _ hN4, st, Nb, by omega, fun k => Nat.le_trans (stepsOf_len A _ k) lA, fun N' H6 s6 nN' hN' => ?_⟩
      refine ⟨N', behindL l (stepsOf A (oneS c)), _, rfl, (s4.trans sE).trans s6, hN', ?_, behind_keys (fun k => stepsOf_rng rng _ k) l, fun zz d e x => ?_⟩
      · rw [take_snoc ec2]
        unfold walkB at el ⊢
        rw [List.foldl_append, ← el]
        rfl
      · obtain ⟨_, _, hv, h3, _⟩ := ((bl3.same s4).same sE).mid zz d e
        rw [x, nN'] at h3
        cases h3
    · obtain ⟨N, l, y8, rfl, s4, hN4, el, ko, dN⟩ := h
      rw [← lz, List.take_length] at el
      have g := DGet.k (k := Sum.inl t) hN4
      rw [prc_val, el] at g
      have fin := q H' ((s1.trans sN).trans s4)
      refine ⟨.ref N, rfl, N, rfl, .inl ⟨_, .inl hN4⟩, .int t, rfl, _, g, ?_⟩
      cases e : look (walkB A z.cps.toList [(h, 0)]) t with
      | none => rw [e] at fin; exact fin
      | some c => rw [e] at fin; exact fin
end
end K58
set_option Elab.async false
set_option linter.all false
set_option maxRecDepth 100000
set_option maxHeartbeats 2000000
namespace K58
open PySem PySem.Spec PyProof.Rows L2 Ver
def Tape (t u : Addr) (H : Hp) : Prop := t ≠ u ∧ ∃ (ns : List Int) (c sd : Int), 0 ≤ c ∧ 0 ≤ sd ∧ sd < 1000000000039 ∧ ns.length ≤ 1000 ∧ H t = some (.lst [.ref u, .int c, .int sd]) ∧ H u = some (.lst (ns.map V.int))
def Drawn2 (t u : Addr) (H H' : Hp) : Prop := (∀ b o, b ≠ t → b ≠ u → H b = some o → H' b = some o) ∧ Tape t u H'
theorem Drawn2.trans {t u : Addr} {H H1 H2 : Hp} (a : Drawn2 t u H H1) (b : Drawn2 t u H1 H2) : Drawn2 t u H H2 := ⟨fun c o h1 h2 e => b.1 c o h1 h2 (a.1 c o h1 h2 e), b.2⟩
theorem Drawn2.refl {t u : Addr} {H : Hp} (h : Tape t u H) : Drawn2 t u H H := ⟨fun _ _ _ _ e => e, h⟩
theorem Drawn2.same {t u : Addr} {H H1 H2 : Hp} (a : Drawn2 t u H H1) (s : Same H1 H2) : Drawn2 t u H H2 := ⟨fun c o h1 h2 e => s _ _ (a.1 c o h1 h2 e), by
  obtain ⟨tu, ns, c, sd, h1, h2, h3, ln, ht, hu⟩ := a.2
  exact ⟨tu, ns, c, sd, h1, h2, h3, ln, s _ _ ht, s _ _ hu⟩⟩
theorem Tape.ne {t u D : Addr} {H : Hp} (h : Tape t u H) (n : H D = none) : t ≠ D ∧ u ≠ D := by
  obtain ⟨_, ns, c, sd, _, _, _, _, ht, hu⟩ := h
  exact ⟨fun e => (by rw [e, n] at ht; cases ht), fun e => (by rw [e, n] at hu; cases hu)⟩
theorem Drawn2.at {t u L : Addr} {H H1 : Hp} {o : HO} (a : Drawn2 t u H H1) (nL : H L = none) (h : t ≠ L ∧ u ≠ L) : Drawn2 t u H (upd H1 L o) := ⟨fun b x h1 h2 e => by
  rw [upd_ne (fun q => by rw [q, nL] at e; cases e)]
  exact a.1 b x h1 h2 e, by
  obtain ⟨tu, ns, c, sd, h1, h2, h3, ln, ht, hu⟩ := a.2
  exact ⟨tu, ns, c, sd, h1, h2, h3, ln, by rw [upd_ne h.1]; exact ht, by rw [upd_ne h.2]; exact hu⟩⟩
theorem Drawn2.back {t u D : Addr} {H H' : Hp} (d : Drawn2 t u H H') (n : H' D = none) : H D = none := by
  cases e : H D with
  | none => rfl
  | some o =>
    obtain ⟨h1, h2⟩ := d.2.ne n
    rw [d.1 D o h1.symm h2.symm e] at n
    cases n
theorem Tape.upT {t u : Addr} {H : Hp} (h : Tape t u H) {c sd : Int} (c0 : 0 ≤ c) (s0 : 0 ≤ sd) (s1 : sd < 1000000000039) : Drawn2 t u H (upd H t (.lst [.ref u, .int c, .int sd])) := by
  obtain ⟨tu, ns, c', sd', _, _, _, ln, ht, hu⟩ := h
  exact ⟨fun b o h1 _ e => by rw [upd_ne h1]; exact e, tu, ns, c, sd, c0, s0, s1, ln, upd_same, by rw [upd_ne tu.symm]; exact hu⟩
theorem Tape.upU {t u : Addr} {H : Hp} (h : Tape t u H) {ns : List Int} (ln : ns.length ≤ 1000) : Drawn2 t u H (upd H u (.lst (ns.map V.int))) := by
  obtain ⟨tu, ns', c, sd, h1, h2, h3, _, ht, hu⟩ := h
  exact ⟨fun b o _ h1 e => by rw [upd_ne h1]; exact e, tu, ns, c, sd, h1, h2, h3, ln, by rw [upd_ne tu]; exact ht, upd_same⟩
section
variable {P : Program} {w : World} {K : PySem.W.Frag} {mg : Str → Option Value} {base : Heap}
def sp__law_pick (K : PySem.W.Frag) : Sp := fun vs H Q _ => ∃ (t u : Addr) (m : Int), vs = [.ref t, .int m] ∧ Tape t u H ∧ 1 ≤ m ∧ m ≤ 1000000000 ∧ ∀ r H', 0 ≤ r → r < m → Drawn2 t u H H' → Q (.int r) H'
theorem ok__law_pick (T : Tx K mg) : FnOk P w K mg base CX0 1 T.f__law_pick T.d__law_pick ["tape", "many"] (sp__law_pick K) := by
  refine T.F__law_pick.ok sc__law_pick (fun vs H Q E h => ?_) (fun cdv A outer s H vs Q E hr h => ?_)
  · obtain ⟨t, u, m, rfl, _⟩ := h; rfl
  · obtain ⟨t, u, m, rfl, hT, m0, m1, q⟩ := h
    refine ⟨_, (pss_cons (ps_set (i := 2) sc__law_pick.nd rfl (Or.inl rfl) (pe_ix ix_list (pv 0) pe_int (fun _ _ => rfl)))
    (C8.pss_cut (ps_if (PW.pt (pw_and (pt_cmpR op_eq (pe_ix ix_list (pv 0) pe_int (fun _ _ => rfl)) pe_int (nomark _)) (pw_and1 (pt_truth (pv 2) (fun _ => rfl))))) (pss_cons (ps_set (i := 3) sc__law_pick.nd rfl (Or.inl rfl) (pe_bm PySem.F.plainAttrs_list PySem.F.slot_list_pop PySem.F.type_list_pop mt_popAt (pv 2) (pa_cons pe_int pa_nil)))
    (pss_one (ps_if (pt_cmpR op_ge (pv 3) (pe_op op_pow pe_int pe_int) (nomark _)) (pss_one (ps_asg (pv 3) (pg_sub (pv 0) pe_int set_list))) (pss_one (ps_asg (pe_op op_modN (pe_callTy call_int1 (by rfl) T.n_int (by decide +kernel) (pa_cons (pe_op op_add (pe_op op_add (pe_op op_mul (pe_ix ix_list (pv 0) pe_int (fun _ _ => rfl)) pe_int) (pe_op op_mul (pv 3) pe_int)) pe_int) pa_nil)) pe_int) (pg_sub (pv 0) pe_int set_list)))))) pss_nil)
    (C8.pss_cut (ps_if (pt_cmpR op_gt (pe_ix ix_list (pv 0) pe_int (fun _ _ => rfl)) pe_int (nomark _)) (pss_cons (ps_set (i := 4) sc__law_pick.nd rfl (Or.inl rfl) (pe_op op_modN (pe_callTy call_int1 (by rfl) T.n_int (by decide +kernel) (pa_cons (pe_ix ix_list (pv 0) pe_int (fun _ _ => rfl)) pa_nil)) (pv 1)))
    (pss_cons (ps_asg (pe_op op_fdivN (pe_ix ix_list (pv 0) pe_int (fun _ _ => rfl)) (pv 1)) (pg_sub (pv 0) pe_int set_list))
    (pss_one (ps_ret (pv 4))))) pss_nil)
    (pss_cons (ps_asg (pe_op op_modN (pe_callTy call_int1 (by rfl) T.n_int (by decide +kernel) (pa_cons (pe_op op_add (pe_op op_mul (pe_ix ix_list (pv 0) pe_int (fun _ _ => rfl)) pe_int) pe_int) pa_nil)) pe_int) (pg_sub (pv 0) pe_int set_list))
    (pss_one (ps_ret (pe_op op_modN (pe_callTy call_int1 (by rfl) T.n_int (by decide +kernel) (pa_cons (pe_op op_fdivN (pe_op op_mul (pe_ix ix_list (pv 0) pe_int (fun _ _ => rfl)) pe_int) pe_int) pa_nil)) (pv 1)))))))), ?_⟩
    have fm : ∀ i : Int, 0 ≤ i.fmod m ∧ i.fmod m < m := fun i => ⟨Int.fmod_nonneg_of_pos _ (by omega), Int.fmod_lt_of_pos _ (by omega)⟩
    obtain ⟨tu, ns, c, sd, c0, s0, s1, ln, ht, hu⟩ := _root_.id hT
    have at3 : ∀ (a b c : V), atI [a, b, c] 0 = some a ∧ atI [a, b, c] 1 = some b ∧ atI [a, b, c] 2 = some c := fun a b c => ⟨(atI_nat (j := 0) rfl : atI _ ((0 : Nat) : Int) = _), (atI_nat (j := 1) rfl : atI _ ((1 : Nat) : Int) = _), (atI_nat (j := 2) rfl : atI _ ((2 : Nat) : Int) = _)⟩
    refine ⟨.ref t, rfl, t, _, 0, .ref u, rfl, rfl, .inl (.inl ht), (at3 _ _ _).1, ?_⟩
    refine ⟨fun σ' H' => ∃ y3 : Option V, σ' = [some (.ref t), some (.int m), some (.ref u), y3, none] ∧ Drawn2 t u H H', ?_, fun σ' H1 h => ?_⟩
    · refine ⟨.ref t, rfl, t, _, 1, .int c, rfl, rfl, .inl (.inl ht), (at3 _ _ _).2.1, rfl, _, rfl, ite2 (fun z => ?_) (fun z => ⟨none, rfl, Drawn2.refl hT⟩)⟩
      cases ns with
      | nil => exact ⟨.ref u, rfl, false, .inl ⟨_, .inl (.inl hu), rfl⟩, none, rfl, Drawn2.refl hT⟩
      | cons x rest =>
        refine ⟨.ref u, rfl, true, .inl ⟨_, .inl (.inl hu), rfl⟩, ?_⟩
        refine if_tt ?_
        have du := hT.upU (ns := rest) (by have := ln; rw [List.length_cons] at this; omega)
        have ht2 : (upd H u (.lst (rest.map V.int))) t = some (.lst [.ref u, .int c, .int sd]) := by rw [upd_ne tu]; exact ht
        refine ⟨.ref u, rfl, .inl ⟨rfl, _, .inl (.inl hu)⟩, u, _, 0, 0, .int x, rfl, rfl, hu, by decide, by decide, ?_, rfl, ?_⟩
        · have : seqIndex? 0 (List.map V.int (x :: rest)).length = some 0 := by
            refine (ixN_seq (j := 0) ?_).1
            unfold ixN
            rw [if_pos (by decide), if_pos (by show (0 : Int) < ((rest.map V.int).length + 1 : Nat); omega)]
            rfl
          exact this
        rw [show (List.map V.int (x :: rest)).eraseIdx 0 = rest.map V.int from rfl]
        generalize upd H u (.lst (rest.map V.int)) = H2 at du ht2 ⊢
        have ix1 : ixN (3 : Nat) 1 = some 1 := by decide
        have ix2 : ixN (3 : Nat) 2 = some 2 := by decide
        refine ⟨.int x, rfl, 10, 18, rfl, rfl, ⟨by decide, by decide, by decide⟩, _, _, rfl, rfl, _, rfl, ite2 (fun z2 => ?_) (fun z2 => ?_)⟩
        · have x18 : (10 : Int) ^ (18 : Int).toNat ≤ x := of_decide_eq_true z2
          have p18 : (0 : Int) ≤ (10 : Int) ^ (18 : Int).toNat := by decide +kernel
          refine ⟨.int x, rfl, .ref t, rfl, t, _, 1, 1, rfl, rfl, ht2, ix1, some (.int x), rfl, du.trans (du.2.upT (by omega) s0 s1)⟩
        · have md : ∀ y : Int, 0 ≤ y.fmod 1000000000039 ∧ y.fmod 1000000000039 < 1000000000039 := fun y => ⟨Int.fmod_nonneg_of_pos _ (by decide), Int.fmod_lt_of_pos _ (by decide)⟩
          refine ⟨.ref t, rfl, t, _, 2, .int sd, rfl, rfl, .inl (.inl ht2), (at3 _ _ _).2.2, _, _, rfl, rfl, .inr ⟨by decide, by decide⟩, .int x, rfl, _, _, rfl, rfl, .inr ⟨by decide, by decide⟩, _, _, rfl, rfl, _, _, rfl, rfl, .inl ⟨_, rfl, _, _, rfl, rfl, (show (1000000000039 : Int) ≠ 0 by decide), ?_⟩⟩
          exact ⟨.ref t, rfl, t, _, 2, 2, rfl, rfl, ht2, ix2, some (.int x), rfl, du.trans (du.2.upT c0 (md _).1 (md _).2)⟩
    obtain ⟨y3, rfl, d⟩ := h
    obtain ⟨_, ns, c, sd, c0, s0, s1, ln, ht, hu⟩ := _root_.id d.2
    have ix1 : ixN (3 : Nat) 1 = some 1 := by decide
    have ix2 : ixN (3 : Nat) 2 = some 2 := by decide
    refine ⟨fun σ' H' => H' = H1 ∧ σ' = [some (.ref t), some (.int m), some (.ref u), y3, none], ?_, fun σ' H2 h => ?_⟩
    · refine ⟨.ref t, rfl, t, _, 1, .int c, rfl, rfl, .inl (.inl ht), (at3 _ _ _).2.1, _, _, rfl, rfl, _, rfl, ite2 (fun z => ?_) (fun z => ⟨rfl, rfl⟩)⟩
      refine ⟨.ref t, rfl, t, _, 1, .int c, rfl, rfl, .inl (.inl ht), (at3 _ _ _).2.1, .inl ⟨_, rfl, .int m, rfl, _, m, rfl, rfl, (show m ≠ 0 by omega), ?_⟩⟩
      refine ⟨.ref t, rfl, t, _, 1, .int c, rfl, rfl, .inl (.inl ht), (at3 _ _ _).2.1, .int m, rfl, _, m, rfl, rfl, ⟨by omega, by omega⟩, ?_⟩
      refine ⟨.ref t, rfl, t, _, 1, 1, rfl, rfl, ht, ix1, ?_⟩
      obtain ⟨f1, f2⟩ := fm c
      exact ⟨_, rfl, q _ _ f1 f2 (d.trans (d.2.upT (Int.fdiv_nonneg c0 (by omega)) s0 s1))⟩
    obtain ⟨rfl, rfl⟩ := h
    have md : ∀ y : Int, 0 ≤ y.fmod 1000000000039 ∧ y.fmod 1000000000039 < 1000000000039 := fun y => ⟨Int.fmod_nonneg_of_pos _ (by decide), Int.fmod_lt_of_pos _ (by decide)⟩
    refine ⟨.ref t, rfl, t, _, 2, .int sd, rfl, rfl, .inl (.inl ht), (at3 _ _ _).2.2, _, _, rfl, rfl, .inr ⟨by decide, by decide⟩, _, _, rfl, rfl, .inl ⟨_, rfl, _, _, rfl, rfl, (show (1000000000039 : Int) ≠ 0 by decide), ?_⟩⟩
    refine ⟨.ref t, rfl, t, _, 2, 2, rfl, rfl, ht, ix2, ?_⟩
    obtain ⟨g1, g2⟩ := md (sd * 52711 + 4099)
    have d2 := d.trans (d.2.upT c0 g1 g2)
    refine ⟨.ref t, rfl, t, _, 2, _, rfl, rfl, .inl (.inl upd_same), (at3 _ _ _).2.2, _, _, rfl, rfl, .inr ⟨by decide, by decide⟩, _, _, rfl, rfl, ⟨by decide, by decide⟩, .inl ⟨_, rfl, .int m, rfl, _, m, rfl, rfl, (show m ≠ 0 by omega), ?_⟩⟩
    obtain ⟨f1, f2⟩ := fm ((((sd * 52711 + 4099).fmod 1000000000039) * 7919).fdiv 104729)
    exact q _ _ f1 f2 d2
end
end K58
set_option Elab.async false
set_option linter.all false
set_option maxRecDepth 100000
set_option maxHeartbeats 2000000
namespace K58
open PySem PySem.Spec PyProof.Rows L2 Ver
def abcT (z : Str) : Prop := ∀ c ∈ z.cps.toList, 97 ≤ c ∧ c ≤ 99
theorem abc_nil : abcT "" := fun d hd => absurd hd (by show ¬ d ∈ (#[] : Array Nat).toList; simp)
theorem abc_app {x y : Str} (a : abcT x) (b : abcT y) : abcT (x ++ y) := fun d hd => by
  have e : (x ++ y).cps.toList = x.cps.toList ++ y.cps.toList := Array.toList_append
  rw [e] at hd
  exact (List.mem_append.mp hd).elim (a d) (b d)
theorem abc_take {z : Str} (h : abcT z) (n : Nat) : abcT (takeS z n) := fun d hd => h d (List.mem_of_mem_take hd)
theorem abc_slice {z : Str} (h : abcT z) {i : Int} (h0 : 0 ≤ i) : abcT (Txt.slice z none (some i)) := by
  have e : i = ((i.toNat : Nat) : Int) := by omega
  rw [e, slice_takeS]
  exact abc_take h _
theorem takeS_le (z : Str) (k : Nat) : (takeS z k).length ≤ k ∧ (takeS z k).length ≤ z.length := by
  by_cases h : k ≤ z.length
  · rw [takeS_len h]; exact ⟨Nat.le_refl _, h⟩
  · have e : takeS z k = takeS z z.length := by
      unfold takeS
      have l : z.cps.toList.length = z.length := by rw [Array.length_toList]; rfl
      rw [← l, List.take_length, List.take_of_length_le (by omega)]
    rw [e, takeS_len (Nat.le_refl _)]
    exact ⟨by omega, Nat.le_refl _⟩
theorem slice_le (z : Str) {i : Int} (h : 0 ≤ i) : ((Txt.slice z none (some i)).length : Int) ≤ i ∧ (Txt.slice z none (some i)).length ≤ z.length := by
  have e : i = ((i.toNat : Nat) : Int) := by omega
  rw [e, slice_takeS]
  have := takeS_le z i.toNat
  omega
theorem drop_facts (z : Str) (i : Int) (h : 0 ≤ i) : (Txt.slice z (some i) none).length = z.length - i.toNat ∧ (abcT z → abcT (Txt.slice z (some i) none)) := by
  have e := SX.slice_from (a := z.cps.toList) (i := i) h
  rw [SX.S_tl] at e
  rw [e]
  refine ⟨?_, fun az d hd => az d ?_⟩
  · show (List.toArray (z.cps.toList.drop i.toNat)).size = _
    rw [List.size_toArray, List.length_drop, glen]
  · have hd : d ∈ (z.cps.toList.drop i.toNat) := by
      have : (SX.S (z.cps.toList.drop i.toNat)).cps.toList = z.cps.toList.drop i.toNat := rfl
      rw [this] at hd
      exact hd
    exact List.mem_of_mem_drop hd
structure Toks (ts : List Str) : Prop where
  one : 1 ≤ ts.length
  four : ts.length ≤ 4
  nd : ts.Nodup
  some : ∀ z ∈ ts, 1 ≤ z.length ∧ z.length ≤ 3 ∧ abcT z
theorem tup_drawn {t u a : Addr} {xs : List V} {H H' : Hp} (hT : Tape t u H) (d : Drawn2 t u H H') (h : H a = some (.tup xs)) : H' a = some (.tup xs) := by
  obtain ⟨_, ns, c, sd, _, _, _, _, h1, h2⟩ := hT
  exact d.1 a _ (fun e => by rw [e, h1] at h; cases h) (fun e => by rw [e, h2] at h; cases h) h
section
variable {P : Program} {w : World} {K : PySem.W.Frag} {mg : Str → Option Value} {base : Heap}
def sp__law_joined (K : PySem.W.Frag) : Sp := fun vs H Q _ => ∃ (t u a : Addr) (ts : List Str) (m : Nat), vs = [.ref t, .ref a, .int m] ∧ Tape t u H ∧ Toks ts ∧ H a = some (.tup (ts.map V.str)) ∧ m ≤ 100 ∧
  ∀ z H', Drawn2 t u H H' → abcT z → z.length ≤ m → Q (.str z) H'
theorem ok__law_joined (T : Tx K mg) : FnOk P w K mg base CX0 2 T.f__law_joined T.d__law_joined ["tape", "tokens", "most"] (sp__law_joined K) := by
  refine T.F__law_joined.ok sc__law_joined (fun vs H Q E h => ?_) (fun cdv A outer s H vs Q E hr h => ?_)
  · obtain ⟨t, u, a, ts, m, rfl, _⟩ := h; rfl
  · obtain ⟨t, u, a, ts, m, rfl, hT, tk, ha, m1, q⟩ := h
    refine ⟨_, (pss_cons (ps_set (i := 3) sc__law_joined.nd rfl (Or.inl rfl) pe_str)
    (pss_cons (ps_for PassesOwn.never rfl (pi_range1 rfl T.n_range (pa_cons (pe_call (ok__law_pick T) hr rfl T.g__law_pick T.F__law_pick.kp T.b__law_pick .nil pass0 (pa_cons (pv 0) (pa_cons pe_int pa_nil))) pa_nil)) (pg_name (i := 4) sc__law_joined.nd rfl (Or.inl rfl))
    (pss_one (ps_aug (i := 3) sc__law_joined.nd rfl (Or.inl rfl) (pe_ix ix_tup (pv 1) (pe_call (ok__law_pick T) hr rfl T.g__law_pick T.F__law_pick.kp T.b__law_pick .nil pass0 (pa_cons (pv 0) (pa_cons (pe_callB call_len_seq (by rfl) T.n_len (by decide +kernel) (pa_cons (pv 1) pa_nil)) pa_nil))) (fun _ _ => rfl)) iop_add_str)))
    (pss_one (ps_ret (pe_slice C8.sl_txt (pv 3) po_none (po_some (pv 2))))))), ?_⟩
    have l1 := tk.one
    have l4 := tk.four
    refine ⟨.ref t, rfl, t, u, 5, rfl, hT, by decide, by decide, fun r5 H1 r0 r1 d1 => ⟨r5, rfl, by omega, by omega, ?_⟩⟩
    refine for_range0 (n := r5.toNat) (fun i σ H' => ∃ (z : Str) (y4 : Option V), σ = [some (.ref t), some (.ref a), some (.int (m : Nat)), some (.str z), y4] ∧ Drawn2 t u H H' ∧ abcT z ∧ z.length ≤ 3 * i) ⟨"", none, rfl, d1, abc_nil, by decide⟩ (fun i σ H' lt h => ?_) (fun σ H' h => ?_)
    · obtain ⟨z, y4, rfl, d, az, lz⟩ := h
      refine ⟨.str z, rfl, .ref a, rfl, .ref t, rfl, .ref a, rfl, a, _, rfl, .inr (.inl (.inl (tup_drawn hT d ha))), ?_⟩
      rw [List.length_map]
      refine ⟨t, u, (ts.length : Nat), rfl, d.2, by omega, by omega, fun r H3 r0 r1 d3 => ?_⟩
      have lt2 : r.toNat < ts.length := by omega
      have eat : atI (ts.map V.str) r = some (.str ts[r.toNat]) := by
        have e0 : r = ((r.toNat : Nat) : Int) := by omega
        conv => lhs; rw [e0]
        exact atI_nat (by rw [List.getElem?_map, List.getElem?_eq_getElem lt2]; rfl)
      obtain ⟨z1, z3, za⟩ := tk.some _ (List.getElem_mem lt2)
      have el : (z ++ ts[r.toNat]).length = z.length + ts[r.toNat].length := Str.length_append _ _
      refine ⟨a, _, r, _, rfl, rfl, .inl (.inl (tup_drawn hT (d.trans d3) ha)), eat, ?_⟩
      exact ⟨z, ts[r.toNat], rfl, rfl, small' (by omega), z ++ ts[r.toNat], _, rfl, d.trans d3, abc_app az za, by omega⟩
    · obtain ⟨z, y4, rfl, d, az, lz⟩ := h
      have h3 := slice_le z (i := (m : Int)) (by omega)
      exact ⟨.str z, rfl, .int (m : Nat), rfl, _, rfl, z, rfl, small' (by omega), q _ _ d (abc_slice az (by omega)) (by omega)⟩
def sp__law_spoilt (K : PySem.W.Frag) : Sp := fun vs H Q _ => ∃ (t u : Addr) (z l : Str) (m : Nat), vs = [.ref t, .str z, .str l, .int m] ∧ Tape t u H ∧ abcT z ∧ abcT l ∧ 1 ≤ l.length ∧ l.length ≤ 3 ∧ z.length ≤ m ∧ m ≤ 100 ∧
  ∀ y H', Drawn2 t u H H' → abcT y → y.length ≤ m → Q (.str y) H'
theorem ok__law_spoilt (T : Tx K mg) : FnOk P w K mg base CX0 2 T.f__law_spoilt T.d__law_spoilt ["tape", "text", "letters", "most"] (sp__law_spoilt K) := by
  refine T.F__law_spoilt.ok sc__law_spoilt (fun vs H Q E h => ?_) (fun cdv A outer s H vs Q E hr h => ?_)
  · obtain ⟨t, u, z, l, m, rfl, _⟩ := h; rfl
  · obtain ⟨t, u, z, l, m, rfl, hT, az, al, l1, l3, zm, m1, q⟩ := h
    refine ⟨_, (pss_cons (ps_set (i := 4) sc__law_spoilt.nd rfl (Or.inl rfl) (pe_call (ok__law_pick T) hr rfl T.g__law_pick T.F__law_pick.kp T.b__law_pick .nil pass0 (pa_cons (pv 0) (pa_cons pe_int pa_nil))))
    (pss_cons (ps_set (i := 5) sc__law_spoilt.nd rfl (Or.inl rfl) (pe_ix ix_str (pv 2) (pe_call (ok__law_pick T) hr rfl T.g__law_pick T.F__law_pick.kp T.b__law_pick .nil pass0 (pa_cons (pv 0) (pa_cons (pe_callB call_len_str (by rfl) T.n_len (by decide +kernel) (pa_cons (pv 2) pa_nil)) pa_nil))) (fun _ _ => rfl)))
    (pss_cons (ps_if (pt_cmpR op_eq (pv 4) pe_int (nomark _)) (pss_one (ps_ret (pe_slice C8.sl_txt (pv 1) po_none (po_some (pe_call (ok__law_pick T) hr rfl T.g__law_pick T.F__law_pick.kp T.b__law_pick .nil pass0 (pa_cons (pv 0) (pa_cons (pe_op op_add (pe_callB call_len_str (by rfl) T.n_len (by decide +kernel) (pa_cons (pv 1) pa_nil)) pe_int) pa_nil))))))) pss_nil)
    (pss_cons (ps_if (PW.pt (pw_and (pt_cmpR op_eq (pv 4) pe_int (nomark _)) (pw_and1 (pt_truth (pv 1) (fun _ => rfl))))) (pss_cons (ps_set (i := 6) sc__law_spoilt.nd rfl (Or.inl rfl) (pe_call (ok__law_pick T) hr rfl T.g__law_pick T.F__law_pick.kp T.b__law_pick .nil pass0 (pa_cons (pv 0) (pa_cons (pe_callB call_len_str (by rfl) T.n_len (by decide +kernel) (pa_cons (pv 1) pa_nil)) pa_nil))))
    (pss_one (ps_ret (pe_op op_add_str (pe_op op_add_str (pe_slice C8.sl_txt (pv 1) po_none (po_some (pv 6))) (pv 5)) (pe_slice C8.sl_txt (pv 1) (po_some (pe_op op_add (pv 6) pe_int)) po_none))))) pss_nil)
    (pss_cons (ps_if (PW.pt (pw_and (pt_cmpR op_eq (pv 4) pe_int (nomark _)) (pw_and1 (pt_cmpR op_lt (pe_callB call_len_str (by rfl) T.n_len (by decide +kernel) (pa_cons (pv 1) pa_nil)) (pv 3) (nomark _))))) (pss_one (ps_ret (pe_op op_add_str (pv 1) (pv 5)))) pss_nil)
    (pss_one (ps_ret (pv 1)))))))), ?_⟩
    refine ⟨.ref t, rfl, t, u, 6, rfl, hT, by decide, by decide, fun w6 H1 w0 w1 d1 => ?_⟩
    refine ⟨.str l, rfl, .ref t, rfl, .str l, rfl, l, rfl, small' (by omega), t, u, (l.length : Nat), rfl, d1.2, by omega, by omega, fun r H2 r0 r1 d2 => ?_⟩
    obtain ⟨c, ec, cm⟩ : ∃ c, atI l.cps.toList r = some c ∧ c ∈ l.cps.toList := by
      have lt : r.toNat < l.cps.toList.length := by rw [glen]; omega
      have e0 : r = ((r.toNat : Nat) : Int) := by omega
      rw [e0]
      exact ⟨l.cps.toList[r.toNat], atI_nat (j := r.toNat) (List.getElem?_eq_getElem lt), List.getElem_mem lt⟩
    have ac : abcT (⟨#[c]⟩ : Str) := fun d hd => by rw [List.mem_singleton.mp hd]; exact al c cm
    have d12 := d1.trans d2
    refine ⟨l, r, c, rfl, rfl, small' (by omega), ec, ?_⟩
    refine ⟨.int w6, rfl, rfl, _, rfl, ite2 (fun z0 => ?_) (fun z0 => ?_)⟩
    · refine ⟨.str z, rfl, .ref t, rfl, .str z, rfl, z, rfl, small' (by omega), _, _, rfl, rfl, t, u, _, rfl, d12.2, by omega, by omega, fun r3 H3 r30 r31 d3 => ?_⟩
      have h3 := slice_le z (i := r3) r30
      exact ⟨r3, rfl, z, rfl, small' (by omega), q _ _ (d12.trans d3) (abc_slice az r30) (by omega)⟩
    refine ⟨.int w6, rfl, rfl, _, rfl, ite2 (fun z1 => ?_) (fun z1 => ?_)⟩
    · refine ⟨.str z, rfl, _, ⟨small' (by omega), rfl⟩, ?_⟩
      by_cases ze : z.length = 0
      · have e1 : (((z.length : Nat) : Int) != 0) = false := by rw [ze]; rfl
        rw [e1]
        refine if_ff ?_
        refine ⟨.int w6, rfl, rfl, _, rfl, ite2 (fun z2 => ?_) (fun z2 => ?_)⟩
        · refine ⟨.str z, rfl, z, rfl, small' (by omega), .int (m : Nat), rfl, _, _, rfl, rfl, _, rfl, ite2 (fun z3 => ?_) (fun z3 => ?_)⟩
          · have zl : ((z.length : Nat) : Int) < (m : Nat) := of_decide_eq_true z3
            have e5 : (z ++ (⟨#[c]⟩ : Str)).length = z.length + 1 := Str.length_append _ _
            exact ⟨.str z, rfl, .str ⟨#[c]⟩, rfl, z, ⟨#[c]⟩, rfl, rfl, small' (by show z.length + 1 ≤ 100000; omega), q _ _ d12 (abc_app az ac) (by omega)⟩
          · exact ⟨.str z, rfl, q _ _ d12 az zm⟩
        · exact if_ff ⟨.str z, rfl, q _ _ d12 az zm⟩
      · have e1 : (((z.length : Nat) : Int) != 0) = true := by
          rw [bne_iff_ne]
          omega
        rw [e1]
        refine if_tt ?_
        refine ⟨.ref t, rfl, .str z, rfl, z, rfl, small' (by omega), t, u, _, rfl, d12.2, by omega, by omega, fun r3 H3 r30 r31 d3 => ?_⟩
        have h3 := slice_le z (i := r3) r30
        obtain ⟨f1, f2⟩ := drop_facts z (r3 + 1) (by omega)
        have e5 : (Txt.slice z none (some r3) ++ (⟨#[c]⟩ : Str)).length = (Txt.slice z none (some r3)).length + 1 := Str.length_append _ _
        have e6 : (Txt.slice z none (some r3) ++ (⟨#[c]⟩ : Str) ++ Txt.slice z (some (r3 + 1)) none).length = (Txt.slice z none (some r3) ++ (⟨#[c]⟩ : Str)).length + (Txt.slice z (some (r3 + 1)) none).length := Str.length_append _ _
        refine ⟨.str z, rfl, .int r3, rfl, r3, rfl, z, rfl, small' (by omega), .str ⟨#[c]⟩, rfl, _, ⟨#[c]⟩, rfl, rfl, small' (by show _ + 1 ≤ 100000; omega), ?_⟩
        refine ⟨.str z, rfl, .int r3, rfl, r3, 1, rfl, rfl, r3 + 1, rfl, z, rfl, small' (by omega), _, _, rfl, rfl, small' (by omega), ?_⟩
        exact q _ _ (d12.trans d3) (abc_app (abc_app (abc_slice az r30) ac) (f2 az)) (by omega)
    · refine if_ff ?_
      refine ⟨.int w6, rfl, rfl, _, rfl, ite2 (fun z2 => ?_) (fun z2 => ?_)⟩
      · refine ⟨.str z, rfl, z, rfl, small' (by omega), .int (m : Nat), rfl, _, _, rfl, rfl, _, rfl, ite2 (fun z3 => ?_) (fun z3 => ?_)⟩
        · have zl : ((z.length : Nat) : Int) < (m : Nat) := of_decide_eq_true z3
          have e5 : (z ++ (⟨#[c]⟩ : Str)).length = z.length + 1 := Str.length_append _ _
          exact ⟨.str z, rfl, .str ⟨#[c]⟩, rfl, z, ⟨#[c]⟩, rfl, rfl, small' (by show z.length + 1 ≤ 100000; omega), q _ _ d12 (abc_app az ac) (by omega)⟩
        · exact ⟨.str z, rfl, q _ _ d12 az zm⟩
      · exact if_ff ⟨.str z, rfl, q _ _ d12 az zm⟩
end
end K58
set_option Elab.async false
set_option linter.all false
set_option maxRecDepth 100000
set_option maxHeartbeats 2000000
namespace K58
open PySem PySem.Spec PyProof.Rows L2 Ver
theorem inV_strs (s : Str) : ∀ l : List Str, inV (.str s) (l.map V.str) = decide (s ∈ l)
  | [] => rfl
  | x :: l => by
    have ih := inV_strs s l
    show (eqV (.str x) (.str s) || inV (.str s) (l.map V.str)) = _
    rw [ih]
    have e1 : eqV (.str x) (.str s) = decide (x = s) := by
      show (x == s) = decide (x = s)
      by_cases h : x = s
      · subst h; simp
      · rw [decide_eq_false h]; exact beq_eq_false_iff_ne.mpr h
    rw [e1]
    by_cases h : x = s
    · subst h; simp
    · have h' : ¬ s = x := fun q => h q.symm
      rw [decide_eq_false h, Bool.false_or]
      simp [h']
theorem flat_strs : ∀ ws : List Str, (ws.map V.str).all flatV = true
  | [] => rfl
  | _ :: ws => by rw [List.map_cons, List.all_cons, flat_strs ws]; rfl
theorem slice_min (z : Str) {i : Int} (h : 0 ≤ i) : (Txt.slice z none (some i)).length = min i.toNat z.length := by
  have e : i = ((i.toNat : Nat) : Int) := by omega
  conv => lhs; rw [e, slice_takeS]
  by_cases h : i.toNat ≤ z.length
  · rw [takeS_len h]; omega
  · have e : takeS z i.toNat = takeS z z.length := by
      unfold takeS
      have l : z.cps.toList.length = z.length := by rw [Array.length_toList]; rfl
      rw [← l, List.take_length, List.take_of_length_le (by omega)]
    rw [e, takeS_len (Nat.le_refl _)]
    omega
def abcS : Str := "abc"
theorem abcS_len : abcS.length = 3 := by decide +kernel
theorem abcS_abc : abcT abcS := by
  show ∀ c ∈ abcS.cps.toList, 97 ≤ c ∧ c ≤ 99
  decide +kernel
section
variable {P : Program} {w : World} {K : PySem.W.Frag} {mg : Str → Option Value} {base : Heap}
def sp__law_tokens (K : PySem.W.Frag) : Sp := fun vs H Q _ => ∃ (t u : Addr), vs = [.ref t] ∧ Tape t u H ∧ ∀ (r a : Addr) (l : Str) (ts : List Str) H', Drawn2 t u H H' → abcT l → 2 ≤ l.length → l.length ≤ 3 → Toks ts → H' a = some (.tup (ts.map V.str)) → H' r = some (.tup [.str l, .ref a]) → Q (.ref r) H'
theorem ok__law_tokens (T : Tx K mg) : FnOk P w K mg base CX0 2 T.f__law_tokens T.d__law_tokens ["tape"] (sp__law_tokens K) := by
  refine T.F__law_tokens.ok sc__law_tokens (fun vs H Q E h => ?_) (fun cdv A outer s H vs Q E hr h => ?_)
  · obtain ⟨t, u, rfl, _⟩ := h; rfl
  · obtain ⟨t, u, rfl, hT, q⟩ := h
    refine ⟨_, (pss_cons (ps_set (i := 1) sc__law_tokens.nd rfl (Or.inl rfl) (pe_slice C8.sl_txt pe_str po_none (po_some (pe_op op_add pe_int (pe_op op_fdivN (pe_call (ok__law_pick T) hr rfl T.g__law_pick T.F__law_pick.kp T.b__law_pick .nil pass0 (pa_cons (pv 0) (pa_cons pe_int pa_nil))) pe_int)))))
    (pss_cons (ps_set (i := 2) sc__law_tokens.nd rfl (Or.inl rfl) (pe_lst pa_nil))
    (pss_cons (ps_for PassesOwn.never rfl (pi_range1 rfl T.n_range (pa_cons (pe_op op_add pe_int (pe_call (ok__law_pick T) hr rfl T.g__law_pick T.F__law_pick.kp T.b__law_pick .nil pass0 (pa_cons (pv 0) (pa_cons pe_int pa_nil)))) pa_nil)) (pg_name (i := 3) sc__law_tokens.nd rfl (Or.inl rfl))
    (pss_cons (ps_set (i := 4) sc__law_tokens.nd rfl (Or.inl rfl) pe_str)
    (pss_cons (ps_for PassesOwn.never rfl (pi_range1 rfl T.n_range (pa_cons (pe_op op_add pe_int (pe_call (ok__law_pick T) hr rfl T.g__law_pick T.F__law_pick.kp T.b__law_pick .nil pass0 (pa_cons (pv 0) (pa_cons pe_int pa_nil)))) pa_nil)) (pg_name (i := 5) sc__law_tokens.nd rfl (Or.inl rfl))
    (pss_one (ps_aug (i := 4) sc__law_tokens.nd rfl (Or.inl rfl) (pe_ix ix_str (pv 1) (pe_call (ok__law_pick T) hr rfl T.g__law_pick T.F__law_pick.kp T.b__law_pick .nil pass0 (pa_cons (pv 0) (pa_cons (pe_callB call_len_str (by rfl) T.n_len (by decide +kernel) (pa_cons (pv 1) pa_nil)) pa_nil))) (fun _ _ => rfl)) iop_add_str)))
    (C8.pss_cut (ps_set (i := 6) sc__law_tokens.nd rfl (Or.inl rfl) (pe_ifExp (pt_truth (pv 2) (fun _ => rfl)) (pe_call (ok__law_pick T) hr rfl T.g__law_pick T.F__law_pick.kp T.b__law_pick .nil pass0 (pa_cons (pv 0) (pa_cons pe_int pa_nil))) pe_int))
    (C8.pss_cut (ps_if (pt_cmpR op_eq (pv 6) pe_int (nomark _)) (pss_one (ps_set (i := 4) sc__law_tokens.nd rfl (Or.inl rfl) (pe_slice C8.sl_txt (pe_ix ix_list (pv 2) (pe_call (ok__law_pick T) hr rfl T.g__law_pick T.F__law_pick.kp T.b__law_pick .nil pass0 (pa_cons (pv 0) (pa_cons (pe_callB call_len_seq (by rfl) T.n_len (by decide +kernel) (pa_cons (pv 2) pa_nil)) pa_nil))) (fun _ _ => rfl)) po_none (po_some (pe_op op_add pe_int (pe_call (ok__law_pick T) hr rfl T.g__law_pick T.F__law_pick.kp T.b__law_pick .nil pass0 (pa_cons (pv 0) (pa_cons pe_int pa_nil)))))))) pss_nil)
    (C8.pss_cut (ps_if (pt_cmpR op_eq (pv 6) pe_int (nomark _)) (pss_one (ps_set (i := 4) sc__law_tokens.nd rfl (Or.inl rfl) (pe_slice C8.sl_txt (pe_op op_add_str (pe_ix ix_list (pv 2) (pe_call (ok__law_pick T) hr rfl T.g__law_pick T.F__law_pick.kp T.b__law_pick .nil pass0 (pa_cons (pv 0) (pa_cons (pe_callB call_len_seq (by rfl) T.n_len (by decide +kernel) (pa_cons (pv 2) pa_nil)) pa_nil))) (fun _ _ => rfl)) (pv 4)) po_none (po_some pe_int)))) pss_nil)
    (pss_one (ps_if (pt_cmpR op_notIn_seq (pv 4) (pv 2) (by rfl)) (pss_one (ps_expr (pe_bm PySem.F.plainAttrs_list PySem.F.slot_list_append PySem.F.type_list_append mt_append (pv 2) (pa_cons (pv 4) pa_nil)))) pss_nil))))))))
    (pss_one (ps_ret (pe_tup (pa_cons (pv 1) (pa_cons (pe_callTy call_tuple_of (by rfl) T.n_tuple (by decide +kernel) (pa_cons (pv 2) pa_nil)) pa_nil)))))))), ?_⟩
    refine ⟨.ref t, rfl, t, u, 5, rfl, hT, by decide, by decide, fun r5 H1 r0 r1 d1 => ?_⟩
    have hq : r5.fdiv 4 = 0 ∨ r5.fdiv 4 = 1 := by
      rw [Int.fdiv_eq_ediv_of_nonneg _ (by decide)]
      omega
    obtain ⟨l, el, al, l2, l3⟩ : ∃ l, Txt.slice "abc" none (some (2 + r5.fdiv 4)) = l ∧ abcT l ∧ 2 ≤ l.length ∧ l.length ≤ 3 := by
      refine ⟨_, rfl, abc_slice abcS_abc (by omega), ?_⟩
      have f2 : (Txt.slice abcS none (some (2 + 0))).length = 2 := by decide +kernel
      have f3 : (Txt.slice abcS none (some (2 + 1))).length = 3 := by decide +kernel
      rcases hq with h | h
      · rw [h]
        show 2 ≤ (Txt.slice abcS none (some (2 + 0))).length ∧ (Txt.slice abcS none (some (2 + 0))).length ≤ 3
        omega
      · rw [h]
        show 2 ≤ (Txt.slice abcS none (some (2 + 1))).length ∧ (Txt.slice abcS none (some (2 + 1))).length ≤ 3
        omega
    refine ⟨r5, 4, rfl, rfl, ⟨by decide, by decide⟩, 2, _, rfl, rfl, _, rfl, "abc", rfl, small' (by show 3 ≤ 100000; decide), ?_⟩
    rw [el]
    refine ⟨Nat.zero_le _, fun R nR => ?_⟩
    have d2 := d1.same (same_new (o := .lst []) nR)
    have hR : (upd H1 R (.lst [])) R = some (.lst (([] : List Str).map V.str)) := upd_same
    have nRH := d1.back nR
    have tR := d1.2.ne nR
    generalize upd H1 R (.lst []) = H2 at d2 hR ⊢
    refine ⟨.ref t, rfl, t, u, 4, rfl, d2.2, by decide, by decide, fun r4 H3 r40 r41 d3 => ⟨1, r4, rfl, rfl, 1 + r4, rfl, by omega, by omega, ?_⟩⟩
    have keepR : ∀ {Ha Hb : Hp} {o : HO}, Drawn2 t u Ha Hb → Ha R = some o → Hb R = some o := fun d e => d.1 _ _ tR.1.symm tR.2.symm e
    refine for_range0 (n := (1 + r4).toNat) (fun i σ H' => ∃ (ws : List Str) (y3 y4 y5 y6 : Option V), σ = [some (.ref t), some (.str l), some (.ref R), y3, y4, y5, y6] ∧ Drawn2 t u H H' ∧ H' R = some (.lst (ws.map V.str)) ∧ ws.Nodup ∧ ws.length ≤ i ∧ (1 ≤ i → 1 ≤ ws.length) ∧ ∀ z ∈ ws, 1 ≤ z.length ∧ z.length ≤ 3 ∧ abcT z)
      ⟨[], none, none, none, none, rfl, d2.trans d3, keepR d3 hR, List.nodup_nil, Nat.zero_le _, fun h => absurd h (by decide), fun z hz => by cases hz⟩ (fun i σ H' lt h => ?_) (fun σ H' h => ?_)
    · obtain ⟨ws, y3, y4, y5, y6, rfl, d, hR, nd, li, one, okw⟩ := h
      refine ⟨.ref t, rfl, t, u, 3, rfl, d.2, by decide, by decide, fun r3 H4 r30 r31 d4 => ⟨1, r3, rfl, rfl, 1 + r3, rfl, by omega, by omega, ?_⟩⟩
      refine for_range0 (n := (1 + r3).toNat) (fun j σ H' => ∃ (z : Str) (y5 : Option V), σ = [some (.ref t), some (.str l), some (.ref R), some (.int (i : Nat)), some (.str z), y5, y6] ∧ z.length = j ∧ abcT z ∧ Drawn2 t u H H' ∧ H' R = some (.lst (ws.map V.str)))
        ⟨"", y5, rfl, by decide, abc_nil, d.trans d4, keepR d4 hR⟩ (fun j σ H' ltj h => ?_) (fun σ H' h => ?_)
      · obtain ⟨z, y5, rfl, zl, az, d6, hR6⟩ := h
        refine ⟨.str z, rfl, .str l, rfl, .ref t, rfl, .str l, rfl, l, rfl, small' (by omega), t, u, (l.length : Nat), rfl, d6.2, by omega, by omega, fun c0 H7 c1 c2 d7 => ?_⟩
        obtain ⟨c, ec, cm⟩ : ∃ c, atI l.cps.toList c0 = some c ∧ c ∈ l.cps.toList := by
          have lt : c0.toNat < l.cps.toList.length := by rw [glen]; omega
          have e0 : c0 = ((c0.toNat : Nat) : Int) := by omega
          rw [e0]
          exact ⟨l.cps.toList[c0.toNat], atI_nat (j := c0.toNat) (List.getElem?_eq_getElem lt), List.getElem_mem lt⟩
        have ac : abcT (⟨#[c]⟩ : Str) := fun d hd => by rw [List.mem_singleton.mp hd]; exact al c cm
        have e5 : (z ++ (⟨#[c]⟩ : Str)).length = z.length + 1 := Str.length_append _ _
        exact ⟨l, c0, c, rfl, rfl, small' (by omega), ec, z, ⟨#[c]⟩, rfl, rfl, small' (by show z.length + 1 ≤ 100000; omega), z ++ ⟨#[c]⟩, _, rfl, by omega, abc_app az ac, d6.trans d7, keepR d7 hR6⟩
      · obtain ⟨z, y5, rfl, zl, az, d6, hR6⟩ := h
        have zb : 1 ≤ z.length ∧ z.length ≤ 3 := by omega
        have pickW : ∀ (r : Int), 0 ≤ r → r < (ws.length : Nat) → ∃ y, atI (ws.map V.str) r = some (.str y) ∧ 1 ≤ y.length ∧ y.length ≤ 3 ∧ abcT y := fun r r0 r1 => by
          have lt2 : r.toNat < ws.length := by omega
          have e0 : r = ((r.toNat : Nat) : Int) := by omega
          have eat : atI (ws.map V.str) r = some (.str ws[r.toNat]) := by
            conv => lhs; rw [e0]
            exact atI_nat (by rw [List.getElem?_map, List.getElem?_eq_getElem lt2]; rfl)
          exact ⟨ws[r.toNat], eat, okw _ (List.getElem_mem lt2)⟩
        refine ⟨fun σ' H' => ∃ (wy : Int), (ws = [] → wy = 0) ∧ σ' = [some (.ref t), some (.str l), some (.ref R), some (.int (i : Nat)), some (.str z), y5, some (.int wy)] ∧ Drawn2 t u H H' ∧ H' R = some (.lst (ws.map V.str)), ?_, fun σ' H7 h => ?_⟩
        · refine ⟨.ref R, rfl, _, .inl ⟨_, .inl (.inl hR6), rfl⟩, ?_⟩
          cases ws with
          | nil => exact if_ff ⟨0, fun _ => rfl, rfl, d6, hR6⟩
          | cons w0 wr =>
            refine if_tt ?_
            exact ⟨.ref t, rfl, t, u, 4, rfl, d6.2, by decide, by decide, fun r H7 _ _ d7 => ⟨r, (fun z => (by cases z)), rfl, d6.trans d7, keepR d7 hR6⟩⟩
        obtain ⟨wy, hwy, rfl, d7, hR7⟩ := h
        refine ⟨fun σ' H' => ∃ (z : Str), (1 ≤ z.length ∧ z.length ≤ 3) ∧ abcT z ∧ σ' = [some (.ref t), some (.str l), some (.ref R), some (.int (i : Nat)), some (.str z), y5, some (.int wy)] ∧ Drawn2 t u H H' ∧ H' R = some (.lst (ws.map V.str)), ?_, fun σ' H8 h => ?_⟩
        · refine ⟨.int wy, rfl, rfl, _, rfl, ite2 (fun c => ?_) (fun c => ⟨z, zb, az, rfl, d7, hR7⟩)⟩
          have w1 : wy = 1 := V.int.inj (of_decide_eq_true c)
          have ne : ws.length ≠ 0 := fun e => by have := hwy (List.eq_nil_of_length_eq_zero e); omega
          refine ⟨.ref R, rfl, .ref t, rfl, .ref R, rfl, R, _, rfl, .inl (.inl (.inl hR7)), ?_⟩
          rw [List.length_map]
          refine ⟨t, u, (ws.length : Nat), rfl, d7.2, by omega, by omega, fun r H8 r0 r1 d8 => ?_⟩
          obtain ⟨y, ey, y1, y3, ay⟩ := pickW r r0 r1
          refine ⟨R, _, r, _, rfl, rfl, .inl (.inl (keepR d8 hR7)), ey, .ref t, rfl, t, u, 2, rfl, d8.2, by decide, by decide, fun r2 H9 r20 r21 d9 => ⟨1, r2, rfl, rfl, 1 + r2, rfl, y, rfl, small' (by omega), ?_⟩⟩
          have sm := slice_min y (i := 1 + r2) (by omega)
          exact ⟨_, ⟨by omega, by omega⟩, abc_slice ay (by omega), rfl, (d7.trans d8).trans d9, keepR d9 (keepR d8 hR7)⟩
        obtain ⟨z, zb, az, rfl, d8, hR8⟩ := h
        refine ⟨fun σ' H' => ∃ (z : Str), (1 ≤ z.length ∧ z.length ≤ 3) ∧ abcT z ∧ σ' = [some (.ref t), some (.str l), some (.ref R), some (.int (i : Nat)), some (.str z), y5, some (.int wy)] ∧ Drawn2 t u H H' ∧ H' R = some (.lst (ws.map V.str)), ?_, fun σ' H9 h => ?_⟩
        · refine ⟨.int wy, rfl, rfl, _, rfl, ite2 (fun c => ?_) (fun c => ⟨z, zb, az, rfl, d8, hR8⟩)⟩
          have w1 : wy = 2 := V.int.inj (of_decide_eq_true c)
          have ne : ws.length ≠ 0 := fun e => by have := hwy (List.eq_nil_of_length_eq_zero e); omega
          refine ⟨.ref R, rfl, .ref t, rfl, .ref R, rfl, R, _, rfl, .inl (.inl (.inl hR8)), ?_⟩
          rw [List.length_map]
          refine ⟨t, u, (ws.length : Nat), rfl, d8.2, by omega, by omega, fun r H9 r0 r1 d9 => ?_⟩
          obtain ⟨y, ey, y1, y3, ay⟩ := pickW r r0 r1
          have e5 : (y ++ z).length = y.length + z.length := Str.length_append _ _
          refine ⟨R, _, r, _, rfl, rfl, .inl (.inl (keepR d9 hR8)), ey, .str z, rfl, y, z, rfl, rfl, small' (by omega), 3, rfl, _, rfl, small' (by omega), ?_⟩
          have sm := slice_min (y ++ z) (i := 3) (by decide)
          have t3 : (3 : Int).toNat = 3 := rfl
          exact ⟨_, ⟨by omega, by omega⟩, abc_slice (abc_app ay az) (by decide), rfl, d8.trans d9, keepR d9 hR8⟩
        obtain ⟨z, zb, az, rfl, d9, hR9⟩ := h
        refine ⟨.str z, rfl, .ref R, rfl, R, ws.map V.str, rfl, .inl (.inl (.inl hR9)), rfl, flat_strs ws, _, rfl, ?_⟩
        show (if (!inV (.str z) (ws.map V.str)) = true then _ else _)
        rw [inV_strs]
        refine ite2 (fun e1 => ?_) (fun e1 => ?_)
        · have nm : z ∉ ws := by simpa using e1
          exact ⟨.ref R, rfl, .inl ⟨rfl, _, .inl (.inl hR9)⟩, .str z, rfl, R, _, _, rfl, rfl, hR9, small (by rw [List.length_map]; omega), ws ++ [z], _, _, _, _, rfl, d9.at nRH tR, by rw [upd_same, List.map_append]; rfl, List.nodup_append.mpr ⟨nd, List.pairwise_singleton _ _, fun a ha b hb => by rw [List.mem_singleton.mp hb]; exact fun q => nm (q ▸ ha)⟩, by rw [List.length_append]; show ws.length + 1 ≤ i + 1; omega, fun _ => by simp, fun y hy => (List.mem_append.mp hy).elim (okw y) (fun h => by rw [List.mem_singleton.mp h]; exact ⟨zb.1, zb.2, az⟩)⟩
        · have mm : z ∈ ws := by simpa using e1
          exact ⟨ws, _, _, _, _, rfl, d9, hR9, nd, by omega, fun _ => List.length_pos_of_mem mm, okw⟩
    · obtain ⟨ws, y3, y4, y5, y6, rfl, d, hR, nd, li, one, okw⟩ := h
      have l1 := one (by omega)
      refine ⟨.str l, rfl, .ref R, rfl, R, _, rfl, .inl ⟨.inl (.inl hR), fun a na => ?_⟩⟩
      have sa := same_new (o := .tup (ws.map V.str)) na
      refine ⟨small' (by simp), fun r nr => ?_⟩
      have sr := same_new (o := .tup [V.str l, V.ref a]) nr
      exact q r a l ws _ ((d.same sa).same sr) al l2 l3 ⟨l1, by omega, nd, okw⟩ (sr _ _ upd_same) upd_same
end
end K58
set_option Elab.async false
set_option linter.all false
set_option maxRecDepth 100000
set_option maxHeartbeats 2000000
namespace K58
open PySem PySem.Spec PyProof.Rows L2 Ver
theorem rows_drawn {K : PySem.W.Frag} {t u : Addr} {H H' : Hp} (hT : Tape t u H) (d : Drawn2 t u H H') {vs : List V} {rs : List (List Int)} (h : Rows K H vs rs) : Rows K H' vs rs := rows_keep (fun _ _ e => tup_drawn hT d e) h
section
variable {P : Program} {w : World} {K : PySem.W.Frag} {mg : Str → Option Value} {base : Heap}
def sp__law_book (K : PySem.W.Frag) : Sp := fun vs H Q _ => ∃ (t u : Addr) (m : Nat), vs = [.ref t, .int m] ∧ Tape t u H ∧ 1 ≤ m ∧ m ≤ 10 ∧
  ∀ a (n : Nat) fin tab H', Drawn2 t u H H' → BkAt K H' a ⟨((n : Nat) : Int), fin, tab⟩ → 1 ≤ n → n ≤ 3 → tab.length = n → (∀ r ∈ tab, r.length = m ∧ ∀ x ∈ r, -1 ≤ x ∧ x < (n : Int)) → fin.length ≤ 3 → Q (.ref a) H'
theorem ok__law_book (T : Tx K mg) : FnOk P w K mg base CX0 2 T.f__law_book T.d__law_book ["tape", "many"] (sp__law_book K) := by
  refine T.F__law_book.ok sc__law_book (fun vs H Q E h => ?_) (fun cdv A outer s H vs Q E hr h => ?_)
  · obtain ⟨t, u, m, rfl, _⟩ := h; rfl
  · obtain ⟨t, u, m, rfl, hT, m1, m10, q⟩ := h
    refine ⟨_, (pss_cons (ps_set (i := 2) sc__law_book.nd rfl (Or.inl rfl) (pe_ix ix_tup (pe_tup (pa_cons pe_int (pa_cons pe_int (pa_cons pe_int (pa_cons pe_int pa_nil))))) (pe_call (ok__law_pick T) hr rfl T.g__law_pick T.F__law_pick.kp T.b__law_pick .nil pass0 (pa_cons (pv 0) (pa_cons pe_int pa_nil))) (fun _ _ => rfl)))
    (pss_cons (ps_set (i := 3) sc__law_book.nd rfl (Or.inl rfl) (pe_ix ix_tup (pe_tup (pa_cons pe_int (pa_cons pe_int (pa_cons pe_int pa_nil)))) (pe_call (ok__law_pick T) hr rfl T.g__law_pick T.F__law_pick.kp T.b__law_pick .nil pass0 (pa_cons (pv 0) (pa_cons pe_int pa_nil))) (fun _ _ => rfl)))
    (pss_cons (ps_set (i := 4) sc__law_book.nd rfl (Or.inl rfl) (pe_lst pa_nil))
    (C8.pss_cut (ps_for PassesOwn.never rfl (pi_range1 rfl T.n_range (pa_cons (pv 2) pa_nil)) (pg_name (i := 5) sc__law_book.nd rfl (Or.inl rfl))
    (pss_cons (ps_set (i := 6) sc__law_book.nd rfl (Or.inl rfl) (pe_lst pa_nil))
    (pss_cons (ps_for PassesOwn.never rfl (pi_range1 rfl T.n_range (pa_cons (pv 1) pa_nil)) (pg_name (i := 7) sc__law_book.nd rfl (Or.inl rfl))
    (C8.pss_cut (ps_set (i := 8) sc__law_book.nd rfl (Or.inl rfl) (pe_and (pe_cmpR op_gt (pv 3) pe_int (nomark _)) (pe_one (pe_cmpR op_eq (pe_call (ok__law_pick T) hr rfl T.g__law_pick T.F__law_pick.kp T.b__law_pick .nil pass0 (pa_cons (pv 0) (pa_cons (pv 3) pa_nil))) pe_int (nomark _)))))
    (pss_one (ps_expr (pe_bm PySem.F.plainAttrs_list PySem.F.slot_list_append PySem.F.type_list_append mt_append (pv 6) (pa_cons (pe_ifExp (pt_val (pv 8)) (pe_un un_neg pe_int) (pe_call (ok__law_pick T) hr rfl T.g__law_pick T.F__law_pick.kp T.b__law_pick .nil pass0 (pa_cons (pv 0) (pa_cons (pv 2) pa_nil)))) pa_nil))))))
    (pss_one (ps_expr (pe_bm PySem.F.plainAttrs_list PySem.F.slot_list_append PySem.F.type_list_append mt_append (pv 4) (pa_cons (pe_callTy call_tuple_of (by rfl) T.n_tuple (by decide +kernel) (pa_cons (pv 6) pa_nil)) pa_nil)))))))
    (pss_cons (ps_setLc (i := 9) (own := [("state", 5)]) (g := gName 5) (tt := _) (by rfl) sc__law_book.nd rfl rfl (sw_true rfl rfl rfl (by decide +kernel)) (pi_range1 rfl T.n_range (pa_cons (pv 2) pa_nil)) (blkOk_by (N := ["tape", "many", "count", "gaps", "table", "state", "row", "token", "gone", "finals"]) (sc := defScope s__law_book) (by decide +kernel)) (fun _ _ _ _ _ => (pg_name (i := 5) sc__law_book.nd rfl (Or.inl rfl))) (fun _ _ _ _ _ => (pts_one (pt_cmpR op_gt (pe_call (ok__law_pick T) hr rfl T.g__law_pick T.F__law_pick.kp T.b__law_pick .nil pass0 (pa_cons (pv 0) (pa_cons pe_int pa_nil))) pe_int (nomark _)))) (fun _ _ _ _ _ => (pv 5)))
    (pss_one (ps_ret (pe_tup (pa_cons (pv 2) (pa_cons (pe_callTy call_tuple_of (by rfl) T.n_tuple (by decide +kernel) (pa_cons (pv 9) pa_nil)) (pa_cons (pe_callTy call_tuple_of (by rfl) T.n_tuple (by decide +kernel) (pa_cons (pv 4) pa_nil)) pa_nil))))))))))), ?_⟩
    refine ⟨small' (by simp), fun A nA => ?_⟩
    have d1 := (Drawn2.refl hT).same (same_new (o := .tup [V.int 1, V.int 2, V.int 1, V.int 3]) nA)
    have hA : (upd H A (.tup [V.int 1, V.int 2, V.int 1, V.int 3])) A = some (.tup [V.int 1, V.int 2, V.int 1, V.int 3]) := upd_same
    generalize upd H A (.tup [V.int 1, V.int 2, V.int 1, V.int 3]) = H1 at d1 hA ⊢
    refine ⟨.ref t, rfl, t, u, 4, rfl, d1.2, by decide, by decide, fun r4 H2 r0 r1 d2 => ?_⟩
    obtain ⟨n, en, n1, n3⟩ : ∃ n : Nat, atI [V.int 1, V.int 2, V.int 1, V.int 3] r4 = some (.int (n : Nat)) ∧ 1 ≤ n ∧ n ≤ 3 := by
      have : r4 = 0 ∨ r4 = 1 ∨ r4 = 2 ∨ r4 = 3 := by omega
      rcases this with rfl | rfl | rfl | rfl
      · exact ⟨1, (atI_nat (j := 0) rfl : atI _ ((0 : Nat) : Int) = _), by decide, by decide⟩
      · exact ⟨2, (atI_nat (j := 1) rfl : atI _ ((1 : Nat) : Int) = _), by decide, by decide⟩
      · exact ⟨1, (atI_nat (j := 2) rfl : atI _ ((2 : Nat) : Int) = _), by decide, by decide⟩
      · exact ⟨3, (atI_nat (j := 3) rfl : atI _ ((3 : Nat) : Int) = _), by decide, by decide⟩
    refine ⟨A, _, r4, _, rfl, rfl, .inl (.inl (tup_drawn d1.2 d2 hA)), en, ?_⟩
    have d12 := d1.trans d2
    refine ⟨small' (by simp), fun B nB => ?_⟩
    have d3 := d12.same (same_new (o := .tup [V.int 0, V.int 4, V.int 7]) nB)
    have hB : (upd H2 B (.tup [V.int 0, V.int 4, V.int 7])) B = some (.tup [V.int 0, V.int 4, V.int 7]) := upd_same
    generalize upd H2 B (.tup [V.int 0, V.int 4, V.int 7]) = H3 at d3 hB ⊢
    refine ⟨.ref t, rfl, t, u, 3, rfl, d3.2, by decide, by decide, fun r3 H4 r30 r31 d4 => ?_⟩
    obtain ⟨gp, eg, g0, g7⟩ : ∃ gp : Int, atI [V.int 0, V.int 4, V.int 7] r3 = some (.int gp) ∧ 0 ≤ gp ∧ gp ≤ 7 := by
      have : r3 = 0 ∨ r3 = 1 ∨ r3 = 2 := by omega
      rcases this with rfl | rfl | rfl
      · exact ⟨0, (atI_nat (j := 0) rfl : atI _ ((0 : Nat) : Int) = _), by decide, by decide⟩
      · exact ⟨4, (atI_nat (j := 1) rfl : atI _ ((1 : Nat) : Int) = _), by decide, by decide⟩
      · exact ⟨7, (atI_nat (j := 2) rfl : atI _ ((2 : Nat) : Int) = _), by decide, by decide⟩
    refine ⟨B, _, r3, _, rfl, rfl, .inl (.inl (tup_drawn d3.2 d4 hB)), eg, ?_⟩
    have d34 := d3.trans d4
    refine ⟨Nat.zero_le _, fun L nL => ?_⟩
    have d5 := d34.same (same_new (o := .lst []) nL)
    have hL : (upd H4 L (.lst [])) L = some (.lst []) := upd_same
    have nLH := d34.back nL
    have tL := d34.2.ne nL
    generalize upd H4 L (.lst []) = H5 at d5 hL ⊢
    refine ⟨fun σ' H' => ∃ (y5 y6 y7 y8 : Option V) (tv : List V) (tab : List (List Int)), σ' = [some (.ref t), some (.int (m : Nat)), some (.int (n : Nat)), some (.int gp), some (.ref L), y5, y6, y7, y8, none] ∧ Drawn2 t u H H' ∧ H' L = some (.lst tv) ∧ Rows K H' tv tab ∧ tab.length = n ∧ ∀ r ∈ tab, r.length = m ∧ ∀ x ∈ r, -1 ≤ x ∧ x < (n : Int), ?_, fun σ' H6 h => ?_⟩
    · refine ⟨.int (n : Nat), rfl, (n : Nat), rfl, by omega, by omega, ?_⟩
      refine for_range0 (n := ((n : Nat) : Int).toNat) (fun i σ H' => ∃ (y5 y6 y7 y8 : Option V) (tv : List V) (tab : List (List Int)), σ = [some (.ref t), some (.int (m : Nat)), some (.int (n : Nat)), some (.int gp), some (.ref L), y5, y6, y7, y8, none] ∧ Drawn2 t u H H' ∧ H' L = some (.lst tv) ∧ Rows K H' tv tab ∧ tab.length = i ∧ ∀ r ∈ tab, r.length = m ∧ ∀ x ∈ r, -1 ≤ x ∧ x < (n : Int))
        ⟨none, none, none, none, [], [], rfl, d5, hL, .nil, rfl, fun r hr => by cases hr⟩ (fun i σ H' lt h => ?_) (fun σ H' h => ?_)
      · obtain ⟨y5, y6, y7, y8, tv, tab, rfl, d, hL, hr, li, okr⟩ := h
        have ltv := Paired.length hr
        refine ⟨Nat.zero_le _, fun G nG => ?_⟩
        have dG := d.same (same_new (o := .lst []) nG)
        have hG : (upd H' G (.lst [])) G = some (.lst (([] : List Int).map V.int)) := upd_same
        have nGH := d.back nG
        have tG := d.2.ne nG
        have LG : L ≠ G := fun e => by rw [e, nG] at hL; cases hL
        have hL2 := same_new (o := .lst []) nG _ _ hL
        have hr2 := hr.grow (same_new (o := .lst []) nG)
        generalize upd H' G (.lst []) = H7 at dG hG hL2 hr2 ⊢
        refine ⟨.int (m : Nat), rfl, (m : Nat), rfl, by omega, by omega, ?_⟩
        refine for_range0 (n := ((m : Nat) : Int).toNat) (fun j σ H' => ∃ (y7 y8 : Option V) (r : List Int), σ = [some (.ref t), some (.int (m : Nat)), some (.int (n : Nat)), some (.int gp), some (.ref L), some (.int (i : Nat)), some (.ref G), y7, y8, none] ∧ Drawn2 t u H H' ∧ H' L = some (.lst tv) ∧ Rows K H' tv tab ∧ H' G = some (.lst (r.map V.int)) ∧ r.length = j ∧ ∀ x ∈ r, -1 ≤ x ∧ x < (n : Int))
          ⟨y7, y8, [], rfl, dG, hL2, hr2, hG, rfl, fun x hx => by cases hx⟩ (fun j σ H' ltj h => ?_) (fun σ H' h => ?_)
        · obtain ⟨y7, y8, r0, rfl, d, hL, hr, hG, lr, okx⟩ := h
          rw [Int.toNat_natCast] at ltj lt
          refine ⟨fun σ' H8 => ∃ (gn : Bool), σ' = [some (.ref t), some (.int (m : Nat)), some (.int (n : Nat)), some (.int gp), some (.ref L), some (.int (i : Nat)), some (.ref G), some (.int (j : Nat)), some (.bl gn), none] ∧ Drawn2 t u H' H8, ?_, fun σ' H8 h => ?_⟩
          · refine ⟨.int gp, rfl, gp, 0, rfl, rfl, ?_⟩
            refine ⟨_, rfl, ?_⟩
            by_cases c : 0 < gp
            · rw [decide_eq_true c]
              exact if_tt ⟨.ref t, rfl, .int gp, rfl, t, u, gp, rfl, d.2, by omega, by omega, fun r H8 _ _ d8 => ⟨rfl, _, rfl, d8⟩⟩
            · rw [decide_eq_false c]
              exact if_ff ⟨false, rfl, Drawn2.refl d.2⟩
          obtain ⟨gn, rfl, d8⟩ := h
          have hL8 := d8.1 _ _ tL.1.symm tL.2.symm hL
          have hG8 := d8.1 _ _ tG.1.symm tG.2.symm hG
          have hr8 := rows_drawn d.2 d8 hr
          have more : ∀ (v : Int) (H9 : Hp), Drawn2 t u H8 H9 → -1 ≤ v → v < (n : Int) → ∃ (y7 y8 : Option V) (r : List Int), ([some (.ref t), some (.int (m : Nat)), some (.int (n : Nat)), some (.int gp), some (.ref L), some (.int (i : Nat)), some (.ref G), some (.int (j : Nat)), some (.bl gn), none] : L2.St) = [some (.ref t), some (.int (m : Nat)), some (.int (n : Nat)), some (.int gp), some (.ref L), some (.int (i : Nat)), some (.ref G), y7, y8, none] ∧ Drawn2 t u H (upd H9 G (.lst ((r0 ++ [v]).map V.int))) ∧ (upd H9 G (.lst ((r0 ++ [v]).map V.int))) L = some (.lst tv) ∧ Rows K (upd H9 G (.lst ((r0 ++ [v]).map V.int))) tv tab ∧ (upd H9 G (.lst ((r0 ++ [v]).map V.int))) G = some (.lst (r.map V.int)) ∧ r.length = j + 1 ∧ ∀ x ∈ r, -1 ≤ x ∧ x < (n : Int) := fun v H9 d9 v0 v1 => by
            have hG9 := d9.1 _ _ tG.1.symm tG.2.symm hG8
            refine ⟨_, _, r0 ++ [v], rfl, ((d.trans d8).trans d9).at nGH tG, by rw [upd_ne LG]; exact d9.1 _ _ tL.1.symm tL.2.symm hL8, rows_keep (fun b xs e => tup_upd hG9 e) (rows_drawn d8.2 d9 hr8), upd_same, by rw [List.length_append, lr]; rfl, fun x hx => ?_⟩
            rcases List.mem_append.mp hx with hx | hx
            · exact okx x hx
            · rw [List.mem_singleton.mp hx]; exact ⟨v0, v1⟩
          have lr9 : (r0.map V.int).length < sizeLine := small (by rw [List.length_map]; omega)
          refine ⟨.ref G, rfl, .inl ⟨rfl, _, .inl (.inl hG8)⟩, .bl gn, rfl, gn, rfl, ?_⟩
          cases gn with
          | true =>
            refine if_tt ⟨1, rfl, G, _, _, rfl, rfl, hG8, lr9, ?_⟩
            have := more (-1) H8 (Drawn2.refl d8.2) (by decide) (by omega)
            rw [List.map_append] at this
            exact this
          | false =>
            refine if_ff ⟨.ref t, rfl, .int (n : Nat), rfl, t, u, (n : Nat), rfl, d8.2, by omega, by omega, fun v H9 v0 v1 d9 => ?_⟩
            refine ⟨G, _, _, rfl, rfl, d9.1 _ _ tG.1.symm tG.2.symm hG8, lr9, ?_⟩
            have := more v H9 d9 (by omega) v1
            rw [List.map_append] at this
            exact this
        · obtain ⟨y7, y8, r, rfl, d, hL, hr, hG, lr, okx⟩ := h
          rw [Int.toNat_natCast] at lr
          refine ⟨.ref L, rfl, .inl ⟨rfl, _, .inl (.inl hL)⟩, .ref G, rfl, G, _, rfl, .inl ⟨.inl (.inl hG), fun g ng => ?_⟩⟩
          have sg := same_new (o := .tup (r.map V.int)) ng
          have hg : (upd H' g (.tup (r.map V.int))) g = some (.tup (r.map V.int)) := upd_same
          have d9 := d.same sg
          have hr9 := hr.grow sg
          have hL9 := sg _ _ hL
          generalize upd H' g (.tup (r.map V.int)) = H9 at hg d9 hr9 hL9 ⊢
          refine ⟨L, _, _, rfl, rfl, hL9, small (by omega), _, _, _, _, tv ++ [.ref g], tab ++ [r], rfl, d9.at nLH tL, upd_same, Paired.snoc (rows_keep (fun b xs e => tup_upd hL9 e) hr9) ⟨g, rfl, tup_upd hL9 hg⟩, by rw [List.length_append, li]; rfl, fun r' hr' => ?_⟩
          rcases List.mem_append.mp hr' with hr' | hr'
          · exact okr r' hr'
          · rw [List.mem_singleton.mp hr']; exact ⟨lr, okx⟩
      · obtain ⟨y5, y6, y7, y8, tv, tab, rfl, d, hL, hr, li, okr⟩ := h
        rw [Int.toNat_natCast] at li
        exact ⟨y5, y6, y7, y8, tv, tab, rfl, d, hL, hr, li, okr⟩
    obtain ⟨y5, y6, y7, y8, tv, tab, rfl, d, hL, hr, li, okr⟩ := h
    refine ⟨.int (n : Nat), rfl, (n : Nat), rfl, by omega, by omega, fun F nF => ?_⟩
    have tF := d.2.ne nF
    have nFH := d.back nF
    refine lc_range (lo := 0) (n := ((n : Nat) : Int).toNat) (fun k H' => ∃ fs : List Int, Drawn2 t u H6 H' ∧ H' F = some (.lst (fs.map V.int)) ∧ fs.length ≤ k) ⟨[], (Drawn2.refl d.2).same (same_new nF), upd_same, Nat.le_refl _⟩ (fun k H' lt h => ?_) (fun H7 h => ?_)
    · obtain ⟨fs, d2, hF, lf⟩ := h
      refine ⟨wipe_one _ _ _, ?_⟩
      refine ⟨.ref t, rfl, t, u, 4, rfl, d2.2, by decide, by decide, fun r H8 _ _ d8 => ⟨_, _, rfl, rfl, _, rfl, ite2 (fun z => ?_) (fun z => ?_)⟩⟩
      · exact ⟨_, rfl, _, d8.1 _ _ tF.1.symm tF.2.symm hF, small (by rw [List.length_map]; omega), fs ++ [0 + (k : Int)], (d2.trans d8).at nF tF, by rw [upd_same, List.map_append]; rfl, by rw [List.length_append]; exact Nat.succ_le_succ lf⟩
      · exact ⟨fs, d2.trans d8, d8.1 _ _ tF.1.symm tF.2.symm hF, by omega⟩
    obtain ⟨fs, d7, hF, lf⟩ := h
    have hL7 := d7.1 _ _ tL.1.symm tL.2.symm hL
    have hr7 := rows_drawn d.2 d7 hr
    refine ⟨.int (n : Nat), rfl, .ref F, rfl, F, _, rfl, .inl ⟨.inl (.inl hF), fun f nf => ?_⟩⟩
    have sf := same_new (o := .tup (fs.map V.int)) nf
    have hf : (upd H7 f (.tup (fs.map V.int))) f = some (.tup (fs.map V.int)) := upd_same
    generalize upd H7 f (.tup (fs.map V.int)) = H8 at sf hf ⊢
    refine ⟨.ref L, rfl, L, tv, rfl, .inl ⟨.inl (.inl (sf _ _ hL7)), fun g ng => ?_⟩⟩
    have sg := same_new (o := .tup tv) ng
    have hg : (upd H8 g (.tup tv)) g = some (.tup tv) := upd_same
    generalize upd H8 g (.tup tv) = H9 at sg hg ⊢
    refine ⟨small' (by simp), fun a na => ?_⟩
    have sa := same_new (o := .tup [.int (n : Int), .ref f, .ref g]) na
    exact q a n fs tab _ ((((d.trans d7).same sf).same sg).same sa) ⟨f, g, tv, .inl (.inl upd_same), .inl (.inl (sa _ _ (sg _ _ hf))), .inl (.inl (sa _ _ hg)), hr7.grow ((sf.trans sg).trans sa)⟩ n1 n3 li okr (by omega)
end
end K58
set_option Elab.async false
set_option linter.all false
set_option maxRecDepth 100000
set_option maxHeartbeats 2000000
namespace K58
open PySem PySem.Spec PyProof.Rows L2 Ver
def okT : Nat → PyData → Prop
  | n + 1, .tuple ds => ds.length ≤ 100000 ∧ ∀ e ∈ ds, okT n e
  | _, .none => True
  | _, .bool _ => True
  | _, .int _ => True
  | _, .str _ => True
  | _, _ => False
section
variable {P : Program} {w : World} {K : PySem.W.Frag} {mg : Str → Option Value} {base : Heap}
def sp__law_same (n : Nat) (K : PySem.W.Frag) : Sp := fun vs H Q _ => ∃ x y d, vs = [x, y] ∧ Dp K H x d ∧ Dp K H y d ∧ okT n d ∧ ∀ H', Same H H' → Q (.bl true) H'
theorem ok__law_same (T : Tx K mg) : ∀ n, FnOk P w K mg base CX0 (n + 1) T.f__law_same T.d__law_same ["one", "other"] (sp__law_same n K)
  | 0 => by
    refine T.F__law_same.ok sc__law_same (fun vs H Q E h => ?_) (fun cdv A outer s H vs Q E hr h => ?_)
    · obtain ⟨x, y, d, rfl, _⟩ := h; rfl
    obtain ⟨x, y, d, rfl, hx, hy, ho, q⟩ := h
    refine ⟨_, (pss_cons (ps_if (PW.pt (pw_or (pt_cmpR op_isN (pv 0) pe_non (nomark _)) (pw_or1 (pt_cmpR op_isN (pv 1) pe_non (nomark _))))) (pss_one (ps_ret (pe_and (pe_cmpR op_isN (pv 0) pe_non (nomark _)) (pe_one (pe_cmpR op_isN (pv 1) pe_non (nomark _)))))) pss_nil)
    (pss_cons (ps_if (PW.pt (pw_or (pt_val (pe_callB (cr_isiD (n := "bool") (by decide)) (by rfl) T.n_isinstance (by decide +kernel) (pa_cons (pv 0) (pa_cons (pe_bltn (v := .ty "bool") (by rfl) T.n_bool (by decide +kernel) rfl) pa_nil)))) (pw_or1 (pt_val (pe_callB (cr_isiD (n := "bool") (by decide)) (by rfl) T.n_isinstance (by decide +kernel) (pa_cons (pv 1) (pa_cons (pe_bltn (v := .ty "bool") (by rfl) T.n_bool (by decide +kernel) rfl) pa_nil))))))) (pss_one (ps_ret (pe_and (pe_callB (cr_isiD (n := "bool") (by decide)) (by rfl) T.n_isinstance (by decide +kernel) (pa_cons (pv 0) (pa_cons (pe_bltn (v := .ty "bool") (by rfl) T.n_bool (by decide +kernel) rfl) pa_nil))) (pe_and (pe_callB (cr_isiD (n := "bool") (by decide)) (by rfl) T.n_isinstance (by decide +kernel) (pa_cons (pv 1) (pa_cons (pe_bltn (v := .ty "bool") (by rfl) T.n_bool (by decide +kernel) rfl) pa_nil))) (pe_one (pe_cmpR op_eq (pv 0) (pv 1) (nomark _))))))) pss_nil)
    (pss_cons (ps_if (PW.pt (pw_or (pt_val (pe_callB (cr_isiD (n := "int") (by decide)) (by rfl) T.n_isinstance (by decide +kernel) (pa_cons (pv 0) (pa_cons (pe_bltn (v := .ty "int") (by rfl) T.n_int (by decide +kernel) rfl) pa_nil)))) (pw_or1 (pt_val (pe_callB (cr_isiD (n := "int") (by decide)) (by rfl) T.n_isinstance (by decide +kernel) (pa_cons (pv 1) (pa_cons (pe_bltn (v := .ty "int") (by rfl) T.n_int (by decide +kernel) rfl) pa_nil))))))) (pss_one (ps_ret (pe_and (pe_callB (cr_isiD (n := "int") (by decide)) (by rfl) T.n_isinstance (by decide +kernel) (pa_cons (pv 0) (pa_cons (pe_bltn (v := .ty "int") (by rfl) T.n_int (by decide +kernel) rfl) pa_nil))) (pe_and (pe_callB (cr_isiD (n := "int") (by decide)) (by rfl) T.n_isinstance (by decide +kernel) (pa_cons (pv 1) (pa_cons (pe_bltn (v := .ty "int") (by rfl) T.n_int (by decide +kernel) rfl) pa_nil))) (pe_one (pe_cmpR op_eq (pv 0) (pv 1) (nomark _))))))) pss_nil)
    (pss_cons (ps_if (PW.pt (pw_or (pt_val (pe_callB (cr_isiD (n := "str") (by decide)) (by rfl) T.n_isinstance (by decide +kernel) (pa_cons (pv 0) (pa_cons (pe_bltn (v := .ty "str") (by rfl) T.n_str (by decide +kernel) rfl) pa_nil)))) (pw_or1 (pt_val (pe_callB (cr_isiD (n := "str") (by decide)) (by rfl) T.n_isinstance (by decide +kernel) (pa_cons (pv 1) (pa_cons (pe_bltn (v := .ty "str") (by rfl) T.n_str (by decide +kernel) rfl) pa_nil))))))) (pss_one (ps_ret (pe_and (pe_callB (cr_isiD (n := "str") (by decide)) (by rfl) T.n_isinstance (by decide +kernel) (pa_cons (pv 0) (pa_cons (pe_bltn (v := .ty "str") (by rfl) T.n_str (by decide +kernel) rfl) pa_nil))) (pe_and (pe_callB (cr_isiD (n := "str") (by decide)) (by rfl) T.n_isinstance (by decide +kernel) (pa_cons (pv 1) (pa_cons (pe_bltn (v := .ty "str") (by rfl) T.n_str (by decide +kernel) rfl) pa_nil))) (pe_one (pe_cmpR op_eq (pv 0) (pv 1) (nomark _))))))) pss_nil)
    (pss_cons (ps_if (PW.pt (pw_or (pt_cmpR op_ne (pe_callB (cr_isiD (n := "tuple") (by decide)) (by rfl) T.n_isinstance (by decide +kernel) (pa_cons (pv 0) (pa_cons (pe_bltn (v := .ty "tuple") (by rfl) T.n_tuple (by decide +kernel) rfl) pa_nil))) (pe_callB (cr_isiD (n := "tuple") (by decide)) (by rfl) T.n_isinstance (by decide +kernel) (pa_cons (pv 1) (pa_cons (pe_bltn (v := .ty "tuple") (by rfl) T.n_tuple (by decide +kernel) rfl) pa_nil))) (nomark _)) (pw_or1 (pt_cmpR op_ne (pe_callB call_len_seq (by rfl) T.n_len (by decide +kernel) (pa_cons (pv 0) pa_nil)) (pe_callB call_len_seq (by rfl) T.n_len (by decide +kernel) (pa_cons (pv 1) pa_nil)) (nomark _))))) (pss_one (ps_ret pe_bl)) pss_nil)
    (pss_cons ps_never
    (pss_one (ps_ret pe_bl)))))))), ?_⟩
    have q := q H (Same.refl H)
    cases d
    case none =>
      cases hx
      cases hy
      exact ⟨.non, rfl, rfl, _, rfl, if_tt (if_tt ⟨.non, rfl, rfl, _, rfl, if_tt ⟨.non, rfl, rfl, q⟩⟩)⟩
    case bool b =>
      cases hx
      cases hy
      refine ⟨.bl b, rfl, rfl, _, rfl, if_ff ⟨.bl b, rfl, rfl, _, rfl, if_ff ?_⟩⟩
      refine ⟨.bl b, rfl, .bl b, .bool b, rfl, .bl b, _, rfl, if_tt (if_tt ?_)⟩
      refine ⟨.bl b, rfl, .bl b, .bool b, rfl, .bl b, _, rfl, if_tt ⟨.bl b, rfl, .bl b, .bool b, rfl, .bl b, _, rfl, if_tt ?_⟩⟩
      refine ⟨.bl b, rfl, .bl b, rfl, rfl, ?_⟩
      rw [decide_eq_true rfl]
      exact q
    case int i =>
      cases hx
      cases hy
      refine ⟨.int i, rfl, rfl, _, rfl, if_ff ⟨.int i, rfl, rfl, _, rfl, if_ff ?_⟩⟩
      refine ⟨.int i, rfl, .int i, .int i, rfl, .int i, _, rfl, if_ff ⟨.int i, rfl, .int i, .int i, rfl, .int i, _, rfl, if_ff ?_⟩⟩
      refine ⟨.int i, rfl, .int i, .int i, rfl, .int i, _, rfl, if_tt (if_tt ?_)⟩
      refine ⟨.int i, rfl, .int i, .int i, rfl, .int i, _, rfl, if_tt ⟨.int i, rfl, .int i, .int i, rfl, .int i, _, rfl, if_tt ?_⟩⟩
      refine ⟨.int i, rfl, .int i, rfl, rfl, ?_⟩
      rw [decide_eq_true rfl]
      exact q
    case str z =>
      cases hx
      cases hy
      refine ⟨.str z, rfl, rfl, _, rfl, if_ff ⟨.str z, rfl, rfl, _, rfl, if_ff ?_⟩⟩
      refine ⟨.str z, rfl, .str z, .str z, rfl, .str z, _, rfl, if_ff ⟨.str z, rfl, .str z, .str z, rfl, .str z, _, rfl, if_ff ?_⟩⟩
      refine ⟨.str z, rfl, .str z, .str z, rfl, .str z, _, rfl, if_ff ⟨.str z, rfl, .str z, .str z, rfl, .str z, _, rfl, if_ff ?_⟩⟩
      refine ⟨.str z, rfl, .str z, .str z, rfl, .str z, _, rfl, if_tt (if_tt ?_)⟩
      refine ⟨.str z, rfl, .str z, .str z, rfl, .str z, _, rfl, if_tt ⟨.str z, rfl, .str z, .str z, rfl, .str z, _, rfl, if_tt ?_⟩⟩
      refine ⟨.str z, rfl, .str z, rfl, rfl, ?_⟩
      rw [decide_eq_true rfl]
      exact q
    all_goals exact ho.elim
  | n + 1 => by
    have IH := ok__law_same T n
    refine T.F__law_same.ok sc__law_same (fun vs H Q E h => ?_) (fun cdv A outer s H vs Q E hr h => ?_)
    · obtain ⟨x, y, d, rfl, _⟩ := h; rfl
    obtain ⟨x, y, d, rfl, hx, hy, ho, q⟩ := h
    refine ⟨_, (pss_cons (ps_if (PW.pt (pw_or (pt_cmpR op_isN (pv 0) pe_non (nomark _)) (pw_or1 (pt_cmpR op_isN (pv 1) pe_non (nomark _))))) (pss_one (ps_ret (pe_and (pe_cmpR op_isN (pv 0) pe_non (nomark _)) (pe_one (pe_cmpR op_isN (pv 1) pe_non (nomark _)))))) pss_nil)
    (pss_cons (ps_if (PW.pt (pw_or (pt_val (pe_callB (cr_isiD (n := "bool") (by decide)) (by rfl) T.n_isinstance (by decide +kernel) (pa_cons (pv 0) (pa_cons (pe_bltn (v := .ty "bool") (by rfl) T.n_bool (by decide +kernel) rfl) pa_nil)))) (pw_or1 (pt_val (pe_callB (cr_isiD (n := "bool") (by decide)) (by rfl) T.n_isinstance (by decide +kernel) (pa_cons (pv 1) (pa_cons (pe_bltn (v := .ty "bool") (by rfl) T.n_bool (by decide +kernel) rfl) pa_nil))))))) (pss_one (ps_ret (pe_and (pe_callB (cr_isiD (n := "bool") (by decide)) (by rfl) T.n_isinstance (by decide +kernel) (pa_cons (pv 0) (pa_cons (pe_bltn (v := .ty "bool") (by rfl) T.n_bool (by decide +kernel) rfl) pa_nil))) (pe_and (pe_callB (cr_isiD (n := "bool") (by decide)) (by rfl) T.n_isinstance (by decide +kernel) (pa_cons (pv 1) (pa_cons (pe_bltn (v := .ty "bool") (by rfl) T.n_bool (by decide +kernel) rfl) pa_nil))) (pe_one (pe_cmpR op_eq (pv 0) (pv 1) (nomark _))))))) pss_nil)
    (pss_cons (ps_if (PW.pt (pw_or (pt_val (pe_callB (cr_isiD (n := "int") (by decide)) (by rfl) T.n_isinstance (by decide +kernel) (pa_cons (pv 0) (pa_cons (pe_bltn (v := .ty "int") (by rfl) T.n_int (by decide +kernel) rfl) pa_nil)))) (pw_or1 (pt_val (pe_callB (cr_isiD (n := "int") (by decide)) (by rfl) T.n_isinstance (by decide +kernel) (pa_cons (pv 1) (pa_cons (pe_bltn (v := .ty "int") (by rfl) T.n_int (by decide +kernel) rfl) pa_nil))))))) (pss_one (ps_ret (pe_and (pe_callB (cr_isiD (n := "int") (by decide)) (by rfl) T.n_isinstance (by decide +kernel) (pa_cons (pv 0) (pa_cons (pe_bltn (v := .ty "int") (by rfl) T.n_int (by decide +kernel) rfl) pa_nil))) (pe_and (pe_callB (cr_isiD (n := "int") (by decide)) (by rfl) T.n_isinstance (by decide +kernel) (pa_cons (pv 1) (pa_cons (pe_bltn (v := .ty "int") (by rfl) T.n_int (by decide +kernel) rfl) pa_nil))) (pe_one (pe_cmpR op_eq (pv 0) (pv 1) (nomark _))))))) pss_nil)
    (pss_cons (ps_if (PW.pt (pw_or (pt_val (pe_callB (cr_isiD (n := "str") (by decide)) (by rfl) T.n_isinstance (by decide +kernel) (pa_cons (pv 0) (pa_cons (pe_bltn (v := .ty "str") (by rfl) T.n_str (by decide +kernel) rfl) pa_nil)))) (pw_or1 (pt_val (pe_callB (cr_isiD (n := "str") (by decide)) (by rfl) T.n_isinstance (by decide +kernel) (pa_cons (pv 1) (pa_cons (pe_bltn (v := .ty "str") (by rfl) T.n_str (by decide +kernel) rfl) pa_nil))))))) (pss_one (ps_ret (pe_and (pe_callB (cr_isiD (n := "str") (by decide)) (by rfl) T.n_isinstance (by decide +kernel) (pa_cons (pv 0) (pa_cons (pe_bltn (v := .ty "str") (by rfl) T.n_str (by decide +kernel) rfl) pa_nil))) (pe_and (pe_callB (cr_isiD (n := "str") (by decide)) (by rfl) T.n_isinstance (by decide +kernel) (pa_cons (pv 1) (pa_cons (pe_bltn (v := .ty "str") (by rfl) T.n_str (by decide +kernel) rfl) pa_nil))) (pe_one (pe_cmpR op_eq (pv 0) (pv 1) (nomark _))))))) pss_nil)
    (pss_cons (ps_if (PW.pt (pw_or (pt_cmpR op_ne (pe_callB (cr_isiD (n := "tuple") (by decide)) (by rfl) T.n_isinstance (by decide +kernel) (pa_cons (pv 0) (pa_cons (pe_bltn (v := .ty "tuple") (by rfl) T.n_tuple (by decide +kernel) rfl) pa_nil))) (pe_callB (cr_isiD (n := "tuple") (by decide)) (by rfl) T.n_isinstance (by decide +kernel) (pa_cons (pv 1) (pa_cons (pe_bltn (v := .ty "tuple") (by rfl) T.n_tuple (by decide +kernel) rfl) pa_nil))) (nomark _)) (pw_or1 (pt_cmpR op_ne (pe_callB call_len_seq (by rfl) T.n_len (by decide +kernel) (pa_cons (pv 0) pa_nil)) (pe_callB call_len_seq (by rfl) T.n_len (by decide +kernel) (pa_cons (pv 1) pa_nil)) (nomark _))))) (pss_one (ps_ret pe_bl)) pss_nil)
    (pss_cons (ps_for PassesOwn.never rfl (pi_range1 rfl T.n_range (pa_cons (pe_callB call_len_seq (by rfl) T.n_len (by decide +kernel) (pa_cons (pv 0) pa_nil)) pa_nil)) (pg_name (i := 2) sc__law_same.nd rfl (Or.inl rfl))
    (pss_one (ps_if (pt_not (pt_val (pe_call IH hr rfl T.g__law_same T.F__law_same.kp T.b__law_same .nil pass0 (pa_cons (pe_ix ix_tup (pv 0) (pv 2) (fun _ _ => rfl)) (pa_cons (pe_ix ix_tup (pv 1) (pv 2) (fun _ _ => rfl)) pa_nil))))) (pss_one (ps_ret pe_bl)) pss_nil)))
    (pss_one (ps_ret pe_bl)))))))), ?_⟩
    have q0 := q H (Same.refl H)
    cases d
    case none =>
      cases hx
      cases hy
      exact ⟨.non, rfl, rfl, _, rfl, if_tt (if_tt ⟨.non, rfl, rfl, _, rfl, if_tt ⟨.non, rfl, rfl, q0⟩⟩)⟩
    case bool b =>
      cases hx
      cases hy
      refine ⟨.bl b, rfl, rfl, _, rfl, if_ff ⟨.bl b, rfl, rfl, _, rfl, if_ff ?_⟩⟩
      refine ⟨.bl b, rfl, .bl b, .bool b, rfl, .bl b, _, rfl, if_tt (if_tt ?_)⟩
      refine ⟨.bl b, rfl, .bl b, .bool b, rfl, .bl b, _, rfl, if_tt ⟨.bl b, rfl, .bl b, .bool b, rfl, .bl b, _, rfl, if_tt ?_⟩⟩
      refine ⟨.bl b, rfl, .bl b, rfl, rfl, ?_⟩
      rw [decide_eq_true rfl]
      exact q0
    case int i =>
      cases hx
      cases hy
      refine ⟨.int i, rfl, rfl, _, rfl, if_ff ⟨.int i, rfl, rfl, _, rfl, if_ff ?_⟩⟩
      refine ⟨.int i, rfl, .int i, .int i, rfl, .int i, _, rfl, if_ff ⟨.int i, rfl, .int i, .int i, rfl, .int i, _, rfl, if_ff ?_⟩⟩
      refine ⟨.int i, rfl, .int i, .int i, rfl, .int i, _, rfl, if_tt (if_tt ?_)⟩
      refine ⟨.int i, rfl, .int i, .int i, rfl, .int i, _, rfl, if_tt ⟨.int i, rfl, .int i, .int i, rfl, .int i, _, rfl, if_tt ?_⟩⟩
      refine ⟨.int i, rfl, .int i, rfl, rfl, ?_⟩
      rw [decide_eq_true rfl]
      exact q0
    case str z =>
      cases hx
      cases hy
      refine ⟨.str z, rfl, rfl, _, rfl, if_ff ⟨.str z, rfl, rfl, _, rfl, if_ff ?_⟩⟩
      refine ⟨.str z, rfl, .str z, .str z, rfl, .str z, _, rfl, if_ff ⟨.str z, rfl, .str z, .str z, rfl, .str z, _, rfl, if_ff ?_⟩⟩
      refine ⟨.str z, rfl, .str z, .str z, rfl, .str z, _, rfl, if_ff ⟨.str z, rfl, .str z, .str z, rfl, .str z, _, rfl, if_ff ?_⟩⟩
      refine ⟨.str z, rfl, .str z, .str z, rfl, .str z, _, rfl, if_tt (if_tt ?_)⟩
      refine ⟨.str z, rfl, .str z, .str z, rfl, .str z, _, rfl, if_tt ⟨.str z, rfl, .str z, .str z, rfl, .str z, _, rfl, if_tt ?_⟩⟩
      refine ⟨.str z, rfl, .str z, rfl, rfl, ?_⟩
      rw [decide_eq_true rfl]
      exact q0
    case tuple ds =>
      obtain ⟨a, xs, rfl, hs, ha⟩ : ∃ a xs, x = .ref a ∧ SqT K H a xs ∧ DpAll K H xs ds := by
        cases hx with
        | tup hs ha => exact ⟨_, _, rfl, hs, ha⟩
      obtain ⟨b, ys, rfl, hs2, ha2⟩ : ∃ b ys, y = .ref b ∧ SqT K H b ys ∧ DpAll K H ys ds := by
        cases hy with
        | tup hs ha => exact ⟨_, _, rfl, hs, ha⟩
      obtain ⟨hl, hds⟩ := ho
      have el : xs.length = ys.length := (dpAll_len ha).trans (dpAll_len ha2).symm
      have lx := dpAll_len ha
      have hx' : Dp K H (.ref a) (.tuple ds) := .tup hs ha
      have hy' : Dp K H (.ref b) (.tuple ds) := .tup hs2 ha2
      refine ⟨.ref a, rfl, rfl, _, rfl, if_ff ⟨.ref b, rfl, rfl, _, rfl, if_ff ?_⟩⟩
      refine ⟨.ref a, rfl, .ref a, _, rfl, hx', _, rfl, if_ff ⟨.ref b, rfl, .ref b, _, rfl, hy', _, rfl, if_ff ?_⟩⟩
      refine ⟨.ref a, rfl, .ref a, _, rfl, hx', _, rfl, if_ff ⟨.ref b, rfl, .ref b, _, rfl, hy', _, rfl, if_ff ?_⟩⟩
      refine ⟨.ref a, rfl, .ref a, _, rfl, hx', _, rfl, if_ff ⟨.ref b, rfl, .ref b, _, rfl, hy', _, rfl, if_ff ?_⟩⟩
      refine ⟨.ref a, rfl, .ref a, _, rfl, hx', .ref b, rfl, .ref b, _, rfl, hy', rfl, _, rfl, if_ff ?_⟩
      refine ⟨.ref a, rfl, a, xs, rfl, .inr hs, .ref b, rfl, b, ys, rfl, .inr hs2, rfl, _, rfl, ?_⟩
      rw [decide_eq_true (show V.int (xs.length : Int) = V.int (ys.length : Int) by rw [el])]
      refine if_ff ?_
      refine ⟨.ref a, rfl, a, xs, rfl, .inr hs, (xs.length : Nat), rfl, by omega, by omega, ?_⟩
      refine for_range0 (n := ((xs.length : Nat) : Int).toNat) (fun i σ H' => Same H H' ∧ ∃ y2, σ = [some (.ref a), some (.ref b), y2]) ⟨Same.refl H, none, rfl⟩ (fun i σ H' lt h => ?_) (fun σ H' h => q H' h.1)
      obtain ⟨sm, y2, rfl⟩ := h
      rw [Int.toNat_natCast] at lt
      have eu : xs[i]? = some (xs[i]'lt) := List.getElem?_eq_getElem lt
      generalize xs[i]'lt = u at eu
      have ev : ys[i]? = some (ys[i]'(by omega)) := List.getElem?_eq_getElem _
      generalize ys[i]'(by omega) = v at ev
      obtain ⟨e, ee, hu⟩ := dpAll_get ha eu
      obtain ⟨e', ee', hv⟩ := dpAll_get ha2 ev
      have eq : e = e' := Option.some.inj (ee.symm.trans ee')
      subst eq
      refine ⟨.ref a, rfl, .int (i : Nat), rfl, a, xs, (i : Nat), u, rfl, rfl, seqT_grow sm hs, atI_nat eu, .ref b, rfl, .int (i : Nat), rfl, b, ys, (i : Nat), v, rfl, rfl, seqT_grow sm hs2, atI_nat ev, u, v, e, rfl, dp_grow sm hu, dp_grow sm hv, hds e (List.mem_of_getElem? ee), fun H2 s2 => ?_⟩
      exact ⟨true, rfl, if_ff ⟨sm.trans s2, _, rfl⟩⟩
    all_goals exact ho.elim
end
end K58
set_option Elab.async false
set_option linter.all false
set_option maxRecDepth 100000
set_option maxHeartbeats 2000000
namespace K58
open PySem PySem.Spec PyProof.Rows L2 Ver
section
variable {P : Program} {w : World} {K : PySem.W.Frag} {mg : Str → Option Value} {base : Heap}
def sp__law_number (K : PySem.W.Frag) : Sp := fun vs H Q _ => ∃ (i a b : Int), vs = [.int i, .int a, .int b] ∧ Q (.bl (decide (a ≤ i) && decide (i < b))) H
theorem ok__law_number (T : Tx K mg) : FnOk P w K mg base CX0 1 T.f__law_number T.d__law_number ["thing", "least", "below"] (sp__law_number K) := by
  refine T.F__law_number.ok sc__law_number (fun vs H Q E h => ?_) (fun cdv A outer s H vs Q E hr h => ?_)
  · obtain ⟨i, a, b, rfl, _⟩ := h; rfl
  · obtain ⟨i, a, b, rfl, q⟩ := h
    refine ⟨_, (pss_one (ps_ret (pe_and (pe_callB (cr_isiD (n := "int") (by decide)) (by rfl) T.n_isinstance (by decide +kernel) (pa_cons (pv 0) (pa_cons (pe_bltn (v := .ty "int") (by rfl) T.n_int (by decide +kernel) rfl) pa_nil))) (pe_and (pe_not (pe_callB (cr_isiD (n := "bool") (by decide)) (by rfl) T.n_isinstance (by decide +kernel) (pa_cons (pv 0) (pa_cons (pe_bltn (v := .ty "bool") (by rfl) T.n_bool (by decide +kernel) rfl) pa_nil)))) (pe_one (pe_chain op_le op_lt (pv 1) (pv 0) (pv 2))))))), ?_⟩
    refine ⟨.int i, rfl, .int i, .int i, rfl, .int i, _, rfl, if_tt ?_⟩
    refine ⟨.int i, rfl, .int i, .int i, rfl, .int i, _, rfl, _, rfl, if_tt ?_⟩
    refine ⟨.int a, rfl, .int i, rfl, a, i, rfl, rfl, _, rfl, ?_⟩
    by_cases c : a ≤ i
    · rw [decide_eq_true c] at q ⊢
      rw [Bool.true_and] at q
      exact if_tt ⟨.int b, rfl, i, b, rfl, rfl, q⟩
    · rw [decide_eq_false c] at q ⊢
      rw [Bool.false_and] at q
      exact if_ff q
end
end K58
set_option Elab.async false
set_option linter.all false
set_option maxRecDepth 100000
set_option maxHeartbeats 2000000
namespace K58
open PySem PySem.Spec PyProof.Rows L2 Ver
abbrev cl (z : Str) : List Nat := z.cps.toList
theorem cl_app (a b : Str) : cl (a ++ b) = cl a ++ cl b := Array.toList_append
theorem cl_one (c : Nat) : cl (oneS c) = [c] := rfl
theorem cl_nil : cl "" = [] := rfl
theorem one_inj {c d : Nat} (h : oneS c = oneS d) : c = d := by
  have : cl (oneS c) = cl (oneS d) := by rw [h]
  rw [cl_one, cl_one] at this
  exact (List.cons.inj this).1
theorem cl_split {u : Str} {x : List Nat} {d : Nat} (h : cl u = x ++ [d]) : u = (⟨x.toArray⟩ : Str) ++ oneS d := Ver.str_of_list (by
  have : cl ((⟨x.toArray⟩ : Str) ++ oneS d) = cl (⟨x.toArray⟩ : Str) ++ cl (oneS d) := cl_app _ _
  exact h.trans this.symm)
theorem cl_mk (x : List Nat) : cl (⟨x.toArray⟩ : Str) = x := rfl
def Agree (x y : List Nat) : Prop := ∀ (i : Nat) (c d : Nat), x[i]? = some c → y[i]? = some d → c = d
theorem agree_snoc {x y : List Nat} {c : Nat} : Agree (x ++ [c]) y ↔ Agree x y ∧ ∀ d, y[x.length]? = some d → d = c := by
  constructor
  · intro h
    refine ⟨fun i a b h1 h2 => h i a b ?_ h2, fun d hd => (h x.length c d (by simp) hd).symm⟩
    have lt := (List.getElem?_eq_some_iff.mp h1).1
    rw [List.getElem?_append_left lt]
    exact h1
  · rintro ⟨h1, h2⟩ i a b e1 e2
    by_cases lt : i < x.length
    · rw [List.getElem?_append_left lt] at e1
      exact h1 i a b e1 e2
    · rw [List.getElem?_append_right (by omega)] at e1
      have i0 : i - x.length = 0 := by
        cases hq : i - x.length with
        | zero => rfl
        | succ n => rw [hq] at e1; simp at e1
      rw [i0] at e1
      have e1 : c = a := by simpa using e1
      have ei : i = x.length := by omega
      subst ei
      rw [← e1]
      exact (h2 b e2).symm
theorem agree_take {x y : List Nat} {n : Nat} (hn : n = min y.length x.length) : Agree x y ↔ x.take n = y.take n := by
  constructor
  · intro h
    refine List.ext_getElem? fun i => ?_
    rw [List.getElem?_take, List.getElem?_take]
    by_cases lt : i < n
    · rw [if_pos lt, if_pos lt]
      have l1 : i < x.length := by omega
      have l2 : i < y.length := by omega
      rw [List.getElem?_eq_getElem l1, List.getElem?_eq_getElem l2, h i _ _ (List.getElem?_eq_getElem l1) (List.getElem?_eq_getElem l2)]
    · rw [if_neg lt, if_neg lt]
  · intro h i c d e1 e2
    have l1 := (List.getElem?_eq_some_iff.mp e1).1
    have l2 := (List.getElem?_eq_some_iff.mp e2).1
    have lt : i < n := by omega
    have := congrArg (fun z => z[i]?) h
    simp only [List.getElem?_take, if_pos lt] at this
    rw [e1, e2] at this
    exact Option.some.inj this
def extR (r : List Int) (t : Int) : List Int := if 0 ≤ t then r ++ [t] else r
theorem extR_pos {r : List Int} {t : Int} (h : 0 ≤ t) : extR r t = r ++ [t] := if_pos h
theorem extR_neg {r : List Int} : extR r (-1) = r := if_neg (by decide)
inductive Path (T : Ta) (p : Pl) : List Nat → List Int → Pl → Prop
  | nil : Path T p [] [] p
  | snoc {cs : List Nat} {r : List Int} {q : Pl} {a : Ar} {c : Nat} : Path T p cs r q → IsArc T q a → a.l = oneS c → Path T p (cs ++ [c]) (extR r a.t) a.to
theorem path_nil {T : Ta} {p : Pl} {cs : List Nat} {r : List Int} {q : Pl} (h : Path T p cs r q) (e : cs = []) : r = [] ∧ q = p := by
  cases h with
  | nil => exact ⟨rfl, rfl⟩
  | snoc h1 h2 h3 => simp at e
theorem path_snoc {T : Ta} {p : Pl} {x cs : List Nat} {c : Nat} {r : List Int} {q : Pl} (h : Path T p x r q) (e : x = cs ++ [c]) : ∃ r' q' a, Path T p cs r' q' ∧ IsArc T q' a ∧ a.l = oneS c ∧ q = a.to ∧ r = extR r' a.t := by
  cases h with
  | nil => simp at e
  | @snoc cs' r' q' a c' h1 h2 h3 =>
    obtain ⟨e1, e2⟩ := List.append_inj' e rfl
    subst e1
    have e2 := (List.cons.inj e2).1
    subst e2
    exact ⟨r', q', a, h1, h2, h3, rfl, rfl⟩
theorem path_reach {T : Ta} {p : Pl} {cs : List Nat} {r : List Int} {q : Pl} (h : Path T p cs r q) (hp : Reach T p) : Reach T q := by
  induction h with
  | nil => exact hp
  | snoc h1 h2 h3 ih => exact .step ih h2
def InR (T : Ta) (r : List Int) : Prop := ∀ t ∈ r, 0 ≤ t ∧ t < (T.ts.length : Int)
def bodyL (T : Ta) (hd cs : List Nat) : List Nat := if T.hl = true ∨ T.g.length ≤ hd.length then cs else (hd ++ cs).drop T.g.length
def placeI (T : Ta) (hd cs : List Nat) : Nat := min T.g.length (hd ++ cs).length
def OwnWay (T : Ta) (hd : List Nat) (s : Int) (cs : List Nat) (r : List Int) (q : Pl) : Prop :=
  Agree (hd ++ cs) (cl T.g) ∧ q.i = placeI T hd cs ∧
  if T.hl = false ∧ (hd ++ cs).length < T.g.length then r = [] ∧ q.b = 0 ∧ q.u = ""
  else InR T r ∧ rowL T.ts r ++ cl q.u = bodyL T hd cs ∧ runG T.tab s r = q.b ∧ 0 ≤ q.b ∧ IsInner T.ts q.u
structure StOk (T : Ta) (hd : List Nat) (s : Int) : Prop where
  ag : Agree hd (cl T.g)
  s0 : 0 ≤ s
  h0 : T.hl = false → T.g.length ≤ hd.length ∨ (hd = [] ∧ s = 0)
theorem own_one {T : Ta} {hd : List Nat} {s : Int} {cs : List Nat} {r : List Int} {q q' : Pl} (h : OwnWay T hd s cs r q) (h' : OwnWay T hd s cs r q') : q = q' := by
  obtain ⟨_, i1, k⟩ := h
  obtain ⟨_, i2, k'⟩ := h'
  obtain ⟨i, b, u⟩ := q
  obtain ⟨i', b', u'⟩ := q'
  have ei : i = i' := i1.trans i2.symm
  subst ei
  by_cases c : T.hl = false ∧ (hd ++ cs).length < T.g.length
  · rw [if_pos c] at k k'
    obtain ⟨_, k1, k2⟩ := k
    obtain ⟨_, k3, k4⟩ := k'
    have e1 : b = b' := k1.trans k3.symm
    have e2 : u = u' := k2.trans k4.symm
    rw [e1, e2]
  · rw [if_neg c] at k k'
    obtain ⟨_, k1, k2, _⟩ := k
    obtain ⟨_, k3, k4, _⟩ := k'
    have e1 : b = b' := k2.symm.trans k4
    have e2 : u = u' := Ver.str_of_list (List.append_cancel_left (k1.trans k3.symm))
    rw [e1, e2]
theorem rowL_snoc (ts : List Str) (r : List Int) (t : Int) : rowL ts (r ++ [t]) = rowL ts r ++ cl (ts.getD t.toNat "") := by
  unfold rowL
  rw [List.flatMap_append]
  simp
theorem run_snoc {tab : List (List Int)} : ∀ {r : List Int} {s t : Int}, 0 ≤ runG tab s r → runG tab s (r ++ [t]) = if cellG tab (runG tab s r) t < 0 then -1 else cellG tab (runG tab s r) t
  | [], s, t, h => rfl
  | x :: r, s, t, h => by
    show (if cellG tab s x < 0 then -1 else runG tab (cellG tab s x) (r ++ [t])) = if cellG tab (if cellG tab s x < 0 then -1 else runG tab (cellG tab s x) r) t < 0 then -1 else cellG tab (if cellG tab s x < 0 then -1 else runG tab (cellG tab s x) r) t
    have h : 0 ≤ (if cellG tab s x < 0 then -1 else runG tab (cellG tab s x) r) := h
    by_cases c : cellG tab s x < 0
    · rw [if_pos c] at h
      exact absurd h (by decide)
    · rw [if_neg c] at h
      rw [if_neg c, if_neg c]
      exact run_snoc h
theorem run_pre {tab : List (List Int)} : ∀ {r : List Int} {s t : Int}, 0 ≤ s → 0 ≤ runG tab s (r ++ [t]) → 0 ≤ runG tab s r
  | [], s, t, h, _ => h
  | x :: r, s, t, h, h2 => by
    have h2 : 0 ≤ (if cellG tab s x < 0 then -1 else runG tab (cellG tab s x) (r ++ [t])) := h2
    show 0 ≤ (if cellG tab s x < 0 then -1 else runG tab (cellG tab s x) r)
    by_cases c : cellG tab s x < 0
    · rw [if_pos c] at h2
      exact absurd h2 (by decide)
    · rw [if_neg c] at h2 ⊢
      exact run_pre (by omega) h2
theorem inner_pre {ts : List Str} {u : Str} {c : Nat} (h : IsInner ts (u ++ oneS c)) : IsInner ts u := by
  obtain ⟨t, ht, k, hk, e⟩ := h
  have e1 : cl u ++ [c] = (cl t).take k := by
    have := congrArg cl e
    rw [cl_app, cl_one] at this
    exact this
  have lu : (cl u).length + 1 ≤ k := by
    have := congrArg List.length e1
    rw [List.length_append, List.length_take, List.length_singleton] at this
    omega
  refine ⟨t, ht, (cl u).length, by omega, Ver.str_of_list ?_⟩
  show cl u = (cl t).take (cl u).length
  have := congrArg (fun z => z.take (cl u).length) e1
  simp only [List.take_left', List.take_take] at this
  rw [Nat.min_eq_left (by omega)] at this
  exact this
theorem inner_tok {ts : List Str} {u : Str} {c : Nat} (h : u ++ oneS c ∈ ts) : IsInner ts u := by
  have ll : (u ++ oneS c).length = (cl u).length + 1 := by
    have := congrArg List.length (cl_app u (oneS c))
    rw [List.length_append, glen, cl_one] at this
    exact this
  refine ⟨_, h, (cl u).length, by omega, Ver.str_of_list ?_⟩
  show cl u = (cl (u ++ oneS c)).take (cl u).length
  rw [cl_app, List.take_left]
theorem tok_get {ts : List Str} {t : Int} {z : Str} (h0 : 0 ≤ t) (h : ts[t.toNat]? = some z) : ts.getD t.toNat "" = z := by
  rw [List.getD_eq_getElem?_getD, h]
  rfl
theorem own_snoc {T : Ta} {hd : List Nat} {s : Int} (ok : T.Ok) (so : StOk T hd s) {cs : List Nat} {c : Nat} {r : List Int} {q : Pl} :
    OwnWay T hd s (cs ++ [c]) r q ↔ ∃ r' q' a, OwnWay T hd s cs r' q' ∧ IsArc T q' a ∧ a.l = oneS c ∧ q = a.to ∧ r = extR r' a.t := by
  have ew : hd ++ (cs ++ [c]) = (hd ++ cs) ++ [c] := (List.append_assoc ..).symm
  have lw : (hd ++ (cs ++ [c])).length = (hd ++ cs).length + 1 := by rw [ew, List.length_append, List.length_singleton]
  have gi : (cl T.g)[placeI T hd cs]? = (cl T.g)[(hd ++ cs).length]? := by
    unfold placeI
    by_cases h : T.g.length ≤ (hd ++ cs).length
    · rw [Nat.min_eq_left h, List.getElem?_eq_none (by rw [glen]; exact Nat.le_refl _), List.getElem?_eq_none (by rw [glen]; exact h)]
    · rw [Nat.min_eq_right (by omega)]
  have pi : min T.g.length (placeI T hd cs + 1) = placeI T hd (cs ++ [c]) := by
    unfold placeI
    rw [lw]
    omega
  by_cases ah : T.hl = false ∧ (hd ++ cs).length < T.g.length
  · -- still ahead
    obtain ⟨hl, lt⟩ := ah
    have ah : T.hl = false ∧ (hd ++ cs).length < T.g.length := ⟨hl, lt⟩
    have hde : hd = [] ∧ s = 0 := (so.h0 hl).resolve_left fun h => by rw [List.length_append] at lt; omega
    have pe : placeI T hd cs = (hd ++ cs).length := Nat.min_eq_right (by omega)
    have gx : (cl T.g)[(hd ++ cs).length]? = some ((cl T.g)[(hd ++ cs).length]'(by rw [glen]; exact lt)) := List.getElem?_eq_getElem _
    generalize (cl T.g)[(hd ++ cs).length]'(by rw [glen]; exact lt) = gc at gx
    have key : OwnWay T hd s (cs ++ [c]) r q ↔ Agree (hd ++ (cs ++ [c])) (cl T.g) ∧ r = [] ∧ q = ⟨placeI T hd cs + 1, 0, ""⟩ := by
      unfold OwnWay
      have pi2 : placeI T hd (cs ++ [c]) = placeI T hd cs + 1 := by rw [← pi, pe]; omega
      rw [pi2]
      obtain ⟨i, b, u⟩ := q
      by_cases c2 : (hd ++ (cs ++ [c])).length < T.g.length
      · rw [if_pos ⟨hl, c2⟩]
        constructor
        · rintro ⟨h1, h2, h3, h4, h5⟩
          have h2 : i = _ := h2
          have h4 : b = 0 := h4
          have h5 : u = "" := h5
          exact ⟨h1, h3, by rw [h2, h4, h5]⟩
        · rintro ⟨h1, h2, h3⟩
          injection h3 with h3 h4 h5
          exact ⟨h1, h3, h2, h4, h5⟩
      · rw [if_neg fun h => c2 h.2]
        have be : bodyL T hd (cs ++ [c]) = [] := by
          unfold bodyL
          rw [if_neg]
          · exact List.drop_of_length_le (by omega)
          · rintro (h | h)
            · rw [hl] at h; cases h
            · rw [List.length_append] at lt; omega
        rw [be, hde.2]
        constructor
        · rintro ⟨h1, h2, h3, h4, h5, h6, h7⟩
          obtain ⟨e1, e2⟩ := List.append_eq_nil_iff.mp h4
          have h2 : i = _ := h2
          have er : r = [] := by
            cases r with
            | nil => rfl
            | cons t r =>
              have ht := h3 t List.mem_cons_self
              have lt2 : t.toNat < T.ts.length := by omega
              have := ok.len _ (List.getElem_mem lt2)
              have e3 : cl (T.ts.getD t.toNat "") = [] := (List.append_eq_nil_iff.mp (show cl (T.ts.getD t.toNat "") ++ rowL T.ts r = [] by have := e1; unfold rowL at this; rw [List.flatMap_cons] at this; exact this)).1
              rw [tok_get ht.1 (List.getElem?_eq_getElem lt2)] at e3
              have := congrArg List.length e3
              rw [glen] at this
              simp at this
              omega
          subst er
          have h5 : (0 : Int) = b := h5
          have e2 : u = "" := Ver.str_of_list e2
          exact ⟨h1, rfl, by rw [h2, ← h5, e2]⟩
        · rintro ⟨h1, rfl, h3⟩
          injection h3 with h3 h4 h5
          refine ⟨h1, h3, fun t ht => (by cases ht), ?_, ?_, ?_, ?_⟩
          · show [] ++ cl u = []
            rw [h5]; rfl
          · exact h4.symm
          · show 0 ≤ b
            rw [h4]; decide
          · show IsInner T.ts u
            rw [h5]
            obtain ⟨z, h0⟩ : ∃ z, T.ts[0]? = some z := ⟨_, List.getElem?_eq_getElem ok.one⟩
            refine ⟨z, List.mem_of_getElem? h0, 0, ?_, rfl⟩
            have := ok.len _ (List.mem_of_getElem? h0)
            omega
    rw [key, ew, agree_snoc]
    constructor
    · rintro ⟨⟨h1, h2⟩, h3, h4⟩
      have e := h2 gc gx
      subst e
      refine ⟨[], ⟨placeI T hd cs, 0, ""⟩, ⟨oneS gc, ⟨placeI T hd cs + 1, 0, ""⟩, -1⟩, ?_, .ahead hl (gi.trans gx), rfl, h4, h3⟩
      unfold OwnWay
      rw [if_pos ah]
      exact ⟨h1, rfl, rfl, rfl, rfl⟩
    · rintro ⟨r', q', a, h1, h2, h3, h4, h5⟩
      unfold OwnWay at h1
      rw [if_pos ah] at h1
      obtain ⟨k1, k2, k3, k4, k5⟩ := h1
      have isA : T.ahead q' := ⟨hl, by rw [k2, pe]; exact lt⟩
      cases h2 with
      | @ahead d e1 e2 =>
        rw [k2, gi, gx] at e2
        have e2 := Option.some.inj e2
        have h3 := one_inj h3
        refine ⟨⟨k1, fun d' hd' => ?_⟩, by rw [h5, k3]; rfl, by rw [h4, k2]⟩
        rw [gx] at hd'
        rw [← Option.some.inj hd', e2, h3]
      | inner e1 => exact absurd isA e1
      | ends e1 => exact absurd isA e1
  · -- tokens are spelled
    have na : ∀ q' : Pl, q'.i = placeI T hd cs → ¬ T.ahead q' := by
      rintro q' e ⟨h1, h2⟩
      refine ah ⟨h1, ?_⟩
      rw [e] at h2
      unfold placeI at h2
      omega
    have ah2 : ¬ (T.hl = false ∧ (hd ++ (cs ++ [c])).length < T.g.length) := fun h => ah ⟨h.1, by have := h.2; omega⟩
    have be : bodyL T hd (cs ++ [c]) = bodyL T hd cs ++ [c] := by
      unfold bodyL
      by_cases h : T.hl = true ∨ T.g.length ≤ hd.length
      · rw [if_pos h, if_pos h]
      · rw [if_neg h, if_neg h, ew, List.drop_append_of_le_length]
        by_cases h2 : T.hl = false
        · have : ¬ (hd ++ cs).length < T.g.length := fun h3 => ah ⟨h2, h3⟩
          omega
        · exact absurd (.inl (by simpa using h2)) h
    unfold OwnWay
    rw [if_neg ah2, be, ew, agree_snoc]
    constructor
    · rintro ⟨⟨h1, h2⟩, h3, h4, h5, h6, h7, h8⟩
      have h2' : ∀ d, (cl T.g)[placeI T hd cs]? = some d → d = c := fun d hd' => h2 d (gi ▸ hd')
      obtain ⟨i, b, u⟩ := q
      have h3 : i = placeI T hd (cs ++ [c]) := h3
      have h5 : rowL T.ts r ++ cl u = bodyL T hd cs ++ [c] := h5
      have h6 : runG T.tab s r = b := h6
      have h7 : 0 ≤ b := h7
      have h8 : IsInner T.ts u := h8
      by_cases un : cl u = []
      · -- a token ends here
        have u0 : u = "" := Ver.str_of_list un
        subst u0
        have h5 : rowL T.ts r = bodyL T hd cs ++ [c] := by rw [← h5]; show _ = rowL T.ts r ++ []; rw [List.append_nil]
        have rn : r ≠ [] := fun e => by
          rw [e] at h5
          have := congrArg List.length h5
          rw [List.length_append] at this
          simp [rowL] at this
        obtain ⟨r', t, er⟩ : ∃ r' t, r = r' ++ [t] := ⟨_, _, (List.dropLast_concat_getLast rn).symm⟩
        subst er
        have ht := h4 t (List.mem_append_right _ List.mem_cons_self)
        have lt2 : t.toNat < T.ts.length := by omega
        have eg : T.ts[t.toNat]? = some T.ts[t.toNat] := List.getElem?_eq_getElem lt2
        have lz := ok.len _ (List.getElem_mem lt2)
        rw [rowL_snoc, tok_get ht.1 eg] at h5
        generalize T.ts[t.toNat] = z at eg lz h5
        have zn : cl z ≠ [] := fun e => by
          have := congrArg List.length e
          rw [glen] at this
          simp at this
          omega
        obtain ⟨x, d, ez⟩ : ∃ x d, cl z = x ++ [d] := ⟨_, _, (List.dropLast_concat_getLast zn).symm⟩
        rw [ez, ← List.append_assoc] at h5
        obtain ⟨e1, e2⟩ := List.append_inj' h5 rfl
        have e2 := (List.cons.inj e2).1
        subst e2
        have ez2 := cl_split ez
        have b0 : 0 ≤ runG T.tab s r' := run_pre so.s0 (by rw [h6]; exact h7)
        have b1 := run_snoc (t := t) b0
        rw [h6] at b1
        have cn : ¬ cellG T.tab (runG T.tab s r') t < 0 := fun h => by rw [if_pos h] at b1; omega
        rw [if_neg cn] at b1
        have et : ((t.toNat : Nat) : Int) = t := by omega
        refine ⟨r', ⟨placeI T hd cs, runG T.tab s r', ⟨x.toArray⟩⟩, ⟨oneS d, ⟨min T.g.length (placeI T hd cs + 1), cellG T.tab (runG T.tab s r') ((t.toNat : Nat) : Int), ""⟩, ((t.toNat : Nat) : Int)⟩, ?_, ?_, rfl, ?_, ?_⟩
        · rw [if_neg ah]
          exact ⟨h1, rfl, fun y hy => h4 y (List.mem_append_left _ hy), e1, rfl, b0, inner_tok (by rw [← ez2]; exact List.mem_of_getElem? eg)⟩
        · exact .ends (na _ rfl) h2' (by rw [eg, ez2]) (by rw [et]; show 0 ≤ cellG T.tab (runG T.tab s r') t; omega)
        · rw [et, pi]
          show Pl.mk i b "" = Pl.mk _ _ ""
          rw [show i = _ from h3, show b = _ from b1]
        · rw [et]; exact (extR_pos ht.1).symm
      · -- within a token
        obtain ⟨x, d, eu⟩ : ∃ x d, cl u = x ++ [d] := ⟨_, _, (List.dropLast_concat_getLast un).symm⟩
        rw [eu, ← List.append_assoc] at h5
        obtain ⟨e1, e2⟩ := List.append_inj' h5 rfl
        have e2 := (List.cons.inj e2).1
        subst e2
        have eu2 := cl_split eu
        rw [eu2] at h8
        refine ⟨r, ⟨placeI T hd cs, b, ⟨x.toArray⟩⟩, ⟨oneS d, ⟨min T.g.length (placeI T hd cs + 1), b, (⟨x.toArray⟩ : Str) ++ oneS d⟩, -1⟩, ?_, .inner (na _ rfl) h2' h8, rfl, ?_, extR_neg.symm⟩
        · rw [if_neg ah]
          exact ⟨h1, rfl, h4, e1, h6, h7, inner_pre h8⟩
        · rw [pi]
          show Pl.mk i b u = Pl.mk _ b _
          rw [show i = _ from h3, ← eu2]
    · rintro ⟨r', q', a, h1, h2, h3, h4, h5⟩
      rw [if_neg ah] at h1
      obtain ⟨k1, k2, k3, k4, k5, k6, k7⟩ := h1
      have nq := na q' k2
      obtain ⟨i, b, u⟩ := q'
      have k2 : i = placeI T hd cs := k2
      have k4 : rowL T.ts r' ++ cl u = bodyL T hd cs := k4
      have k5 : runG T.tab s r' = b := k5
      have k6 : 0 ≤ b := k6
      cases h2 with
      | ahead e1 e2 =>
        refine absurd ⟨e1, ?_⟩ nq
        have := (List.getElem?_eq_some_iff.mp e2).1
        rw [glen] at this
        exact this
      | @inner d e1 e2 e3 =>
        have h3 := one_inj h3
        subst h3
        have h4 : q = ⟨min T.g.length (i + 1), b, u ++ oneS d⟩ := h4
        have h5 : r = r' := h5.trans extR_neg
        subst h4 h5
        refine ⟨⟨k1, fun y hy => e2 y (by show (cl T.g)[i]? = _; rw [k2, gi]; exact hy)⟩, by rw [← pi, ← k2], k3, ?_, k5, k6, e3⟩
        show rowL T.ts r ++ cl (u ++ oneS d) = _
        rw [cl_app, cl_one, ← List.append_assoc, k4]
      | @ends d t e1 e2 e3 e4 =>
        have h3 := one_inj h3
        subst h3
        have t0 : (0 : Int) ≤ (t : Int) := by omega
        have h4 : q = ⟨min T.g.length (i + 1), cellG T.tab b (t : Int), ""⟩ := h4
        have h5 : r = r' ++ [(t : Int)] := h5.trans (extR_pos t0)
        have lt2 := (List.getElem?_eq_some_iff.mp e3).1
        have e4 : 0 ≤ cellG T.tab b (t : Int) := e4
        have e3 : T.ts[t]? = some (u ++ oneS d) := e3
        subst h4 h5
        refine ⟨⟨k1, fun y hy => e2 y (by show (cl T.g)[i]? = _; rw [k2, gi]; exact hy)⟩, by rw [← pi, ← k2], fun y hy => ?_, ?_, ?_, e4, ?_⟩
        · rcases List.mem_append.mp hy with hy | hy
          · exact k3 y hy
          · rw [List.mem_singleton.mp hy]; exact ⟨t0, by omega⟩
        · show rowL T.ts (r' ++ [(t : Int)]) ++ [] = _
          rw [List.append_nil, rowL_snoc, tok_get (t := (t : Int)) t0 e3, cl_app, cl_one, ← List.append_assoc, k4]
        · show runG T.tab s (r' ++ [(t : Int)]) = cellG T.tab b (t : Int)
          rw [run_snoc (by rw [k5]; exact k6), k5, if_neg (by omega)]
        · show IsInner T.ts ""
          obtain ⟨z, h0⟩ : ∃ z, T.ts[0]? = some z := ⟨_, List.getElem?_eq_getElem ok.one⟩
          refine ⟨z, List.mem_of_getElem? h0, 0, ?_, rfl⟩
          have := ok.len _ (List.mem_of_getElem? h0)
          omega
def startP (T : Ta) (hd : List Nat) (s : Int) : Pl := ⟨min T.g.length hd.length, s, ""⟩
theorem own_nil {T : Ta} {hd : List Nat} {s : Int} (ok : T.Ok) (so : StOk T hd s) {r : List Int} {q : Pl} : OwnWay T hd s [] r q ↔ r = [] ∧ q = startP T hd s := by
  obtain ⟨i, b, u⟩ := q
  have pe : placeI T hd [] = min T.g.length hd.length := by unfold placeI; rw [List.append_nil]
  unfold OwnWay startP
  rw [List.append_nil, pe]
  by_cases ah : T.hl = false ∧ hd.length < T.g.length
  · rw [if_pos ah]
    have hs : s = 0 := ((so.h0 ah.1).resolve_left (by omega)).2
    rw [hs]
    constructor
    · rintro ⟨_, h2, h3, h4, h5⟩
      have h2 : i = _ := h2
      have h4 : b = 0 := h4
      have h5 : u = "" := h5
      exact ⟨h3, by rw [h2, h4, h5]⟩
    · rintro ⟨h1, h2⟩
      injection h2 with h2 h3 h4
      exact ⟨so.ag, h2, h1, h3, h4⟩
  · rw [if_neg ah]
    have be : bodyL T hd [] = [] := by
      unfold bodyL
      split
      · rfl
      · rename_i h
        rw [List.append_nil]
        refine List.drop_of_length_le ?_
        by_cases h2 : T.hl = false
        · exact absurd (.inr (by
            have : ¬ hd.length < T.g.length := fun h3 => ah ⟨h2, h3⟩
            omega)) h
        · exact absurd (.inl (by simpa using h2)) h
    rw [be]
    constructor
    · rintro ⟨_, h2, h3, h4, h5, h6, h7⟩
      obtain ⟨e1, e2⟩ := List.append_eq_nil_iff.mp h4
      have er : r = [] := by
        cases r with
        | nil => rfl
        | cons t r =>
          have ht := h3 t List.mem_cons_self
          have lt2 : t.toNat < T.ts.length := by omega
          have := ok.len _ (List.getElem_mem lt2)
          have e3 : cl (T.ts.getD t.toNat "") = [] := (List.append_eq_nil_iff.mp (show cl (T.ts.getD t.toNat "") ++ rowL T.ts r = [] by have := e1; unfold rowL at this; rw [List.flatMap_cons] at this; exact this)).1
          rw [tok_get ht.1 (List.getElem?_eq_getElem lt2)] at e3
          have := congrArg List.length e3
          rw [glen] at this
          simp at this
          omega
      subst er
      have h2 : i = _ := h2
      have h5 : s = b := h5
      have e2 : u = "" := Ver.str_of_list e2
      exact ⟨rfl, by rw [h2, ← h5, e2]⟩
    · rintro ⟨h1, h2⟩
      injection h2 with h2 h3 h4
      subst h1 h2 h3 h4
      refine ⟨so.ag, rfl, fun t ht => (by cases ht), rfl, rfl, so.s0, ?_⟩
      obtain ⟨z, h0⟩ : ∃ z, T.ts[0]? = some z := ⟨_, List.getElem?_eq_getElem ok.one⟩
      refine ⟨z, List.mem_of_getElem? h0, 0, ?_, rfl⟩
      have := ok.len _ (List.mem_of_getElem? h0)
      omega
theorem path_own {T : Ta} {hd : List Nat} {s : Int} (ok : T.Ok) (so : StOk T hd s) : ∀ (n : Nat) {cs : List Nat}, cs.length = n → ∀ {r : List Int} {q : Pl}, Path T (startP T hd s) cs r q ↔ OwnWay T hd s cs r q
  | 0, cs, e, r, q => by
    have e := List.eq_nil_of_length_eq_zero e
    subst e
    rw [own_nil ok so]
    constructor
    · exact fun h => path_nil h rfl
    · rintro ⟨rfl, rfl⟩
      exact .nil
  | n + 1, cs, e, r, q => by
    have ne : cs ≠ [] := fun h => by rw [h] at e; cases e
    obtain ⟨cs', c, rfl⟩ : ∃ cs' c, cs = cs' ++ [c] := ⟨_, _, (List.dropLast_concat_getLast ne).symm⟩
    have e' : cs'.length = n := by rw [List.length_append, List.length_singleton] at e; omega
    rw [own_snoc ok so]
    constructor
    · intro h
      obtain ⟨r', q', a, h1, h2, h3, h4, h5⟩ := path_snoc h rfl
      exact ⟨r', q', a, (path_own ok so n e').mp h1, h2, h3, h4, h5⟩
    · rintro ⟨r', q', a, h1, h2, h3, h4, h5⟩
      subst h4 h5
      exact .snoc ((path_own ok so n e').mpr h1) h2 h3
end K58
set_option Elab.async false
set_option linter.all false
set_option maxRecDepth 100000
set_option maxHeartbeats 2000000
namespace K58
open PySem PySem.Spec PyProof.Rows L2 Ver
def top : List (List Int) → Nat
  | [] => 0
  | r :: R => max (r.length + 1) (top R)
def cntR (R : List (List Int)) (n : Nat) : Int := ((R.countP fun r => decide (r.length = n) : Nat) : Int)
def vecR (R : List (List Int)) : List Int := (List.range (top R)).map (cntR R)
def sumL (v w : List Int) : List Int := (List.range (max v.length w.length)).map fun k => v.getD k 0 + w.getD k 0
theorem top_le {m : Nat} : ∀ {R : List (List Int)}, top R ≤ m ↔ ∀ r ∈ R, r.length + 1 ≤ m
  | [] => ⟨fun _ r h => (by cases h), fun _ => Nat.zero_le _⟩
  | r :: R => by
    show max (r.length + 1) (top R) ≤ m ↔ _
    rw [Nat.max_le, top_le]
    constructor
    · rintro ⟨h1, h2⟩ x hx
      rcases List.mem_cons.mp hx with rfl | hx
      · exact h1
      · exact h2 x hx
    · exact fun h => ⟨h r List.mem_cons_self, fun x hx => h x (List.mem_cons_of_mem _ hx)⟩
theorem cnt_zero {R : List (List Int)} {n : Nat} (h : top R ≤ n) : cntR R n = 0 := by
  unfold cntR
  rw [List.countP_eq_zero.mpr]
  · rfl
  · intro r hr e
    have := top_le.mp h r hr
    have := of_decide_eq_true e
    omega
theorem cnt_nonneg (R : List (List Int)) (n : Nat) : 0 ≤ cntR R n := by unfold cntR; omega
theorem cnt_pos {R : List (List Int)} {n : Nat} : 0 < cntR R n ↔ ∃ r ∈ R, r.length = n := by
  unfold cntR
  rw [show (0 : Int) < ((R.countP fun r => decide (r.length = n) : Nat) : Int) ↔ 0 < R.countP fun r => decide (r.length = n) by omega, List.countP_pos_iff]
  simp
theorem getD_range {f : Nat → Int} {m n : Nat} : ((List.range m).map f).getD n 0 = if n < m then f n else 0 := by
  rw [List.getD_eq_getElem?_getD, List.getElem?_map]
  by_cases h : n < m
  · rw [if_pos h, List.getElem?_range h]; rfl
  · rw [if_neg h, List.getElem?_eq_none (by rw [List.length_range]; omega)]; rfl
theorem vec_getD (R : List (List Int)) (n : Nat) : (vecR R).getD n 0 = cntR R n := by
  unfold vecR
  rw [getD_range]
  split
  · rfl
  · rename_i h
    exact (cnt_zero (by omega)).symm
theorem vec_len (R : List (List Int)) : (vecR R).length = top R := by unfold vecR; rw [List.length_map, List.length_range]
theorem top_app (R S : List (List Int)) : top (R ++ S) = max (top R) (top S) := by
  refine Nat.le_antisymm (top_le.mpr fun r hr => ?_) (Nat.max_le.mpr ⟨top_le.mpr fun r hr => ?_, top_le.mpr fun r hr => ?_⟩)
  · rcases List.mem_append.mp hr with hr | hr
    · exact Nat.le_trans (top_le.mp (Nat.le_refl _) r hr) (Nat.le_max_left _ _)
    · exact Nat.le_trans (top_le.mp (Nat.le_refl _) r hr) (Nat.le_max_right _ _)
  · exact top_le.mp (Nat.le_refl _) r (List.mem_append_left _ hr)
  · exact top_le.mp (Nat.le_refl _) r (List.mem_append_right _ hr)
theorem cnt_app (R S : List (List Int)) (n : Nat) : cntR (R ++ S) n = cntR R n + cntR S n := by
  unfold cntR
  rw [List.countP_append]
  omega
theorem vec_sum (R S : List (List Int)) : sumL (vecR R) (vecR S) = vecR (R ++ S) := by
  unfold sumL
  rw [vec_len, vec_len, ← top_app]
  refine List.map_congr_left fun k _ => ?_
  rw [vec_getD, vec_getD, cnt_app]
theorem sumL_nil_l (w : List Int) : sumL [] w = w := by
  refine List.ext_getElem? fun i => ?_
  unfold sumL
  rw [List.getElem?_map]
  have e : max ([] : List Int).length w.length = w.length := by simp
  rw [e]
  by_cases h : i < w.length
  · rw [List.getElem?_range h, List.getElem?_eq_getElem h]
    show some (0 + w.getD i 0) = _
    rw [List.getD_eq_getElem?_getD, List.getElem?_eq_getElem h]
    simp
  · rw [List.getElem?_eq_none (by rw [List.length_range]; omega), List.getElem?_eq_none (by omega)]; rfl
theorem vec_one (r : List Int) : List.replicate r.length (0 : Int) ++ [1] = vecR [r] := by
  refine List.ext_getElem? fun i => ?_
  unfold vecR
  rw [List.getElem?_map, show top [r] = r.length + 1 by show max (r.length + 1) 0 = _; omega]
  by_cases h : i < r.length
  · rw [List.getElem?_append_left (by rw [List.length_replicate]; exact h), List.getElem?_replicate, if_pos h, List.getElem?_range (by omega)]
    show some (0 : Int) = some (cntR [r] i)
    have : cntR [r] i = 0 := by
      unfold cntR
      rw [List.countP_eq_zero.mpr]
      · rfl
      · intro x hx e
        rw [List.mem_singleton.mp hx] at e
        have := of_decide_eq_true e
        omega
    rw [this]
  · rw [List.getElem?_append_right (by rw [List.length_replicate]; omega), List.length_replicate]
    by_cases h2 : i = r.length
    · subst h2
      rw [Nat.sub_self, List.getElem?_range (by omega)]
      show some (1 : Int) = some (cntR [r] r.length)
      have : cntR [r] r.length = 1 := by unfold cntR; simp
      rw [this]
    · rw [List.getElem?_eq_none (by simp; omega), List.getElem?_eq_none (by rw [List.length_range]; omega)]; rfl
theorem vec_nil {R : List (List Int)} : vecR R = [] ↔ R = [] := by
  constructor
  · intro h
    have := congrArg List.length h
    rw [vec_len] at this
    cases R with
    | nil => rfl
    | cons r R =>
      have h2 : max (r.length + 1) (top R) = 0 := this
      omega
  · rintro rfl; rfl
theorem vec_ext {R : List (List Int)} (ne : R ≠ []) (t : Int) : 0 :: vecR R = vecR (R.map fun r => r ++ [t]) := by
  have et : top (R.map fun r => r ++ [t]) = top R + 1 := by
    refine Nat.le_antisymm (top_le.mpr fun r hr => ?_) ?_
    · obtain ⟨x, hx, rfl⟩ := List.mem_map.mp hr
      have := top_le.mp (Nat.le_refl (top R)) x hx
      rw [List.length_append, List.length_singleton]; omega
    · obtain ⟨r0, hr0⟩ : ∃ r0, r0 ∈ R := by
        cases R with
        | nil => exact absurd rfl ne
        | cons r R => exact ⟨r, List.mem_cons_self⟩
      have h1 : top R ≤ top (R.map fun r => r ++ [t]) - 1 := top_le.mpr fun r hr => by
        have := top_le.mp (Nat.le_refl (top (R.map fun r => r ++ [t]))) (r ++ [t]) (List.mem_map.mpr ⟨r, hr, rfl⟩)
        rw [List.length_append, List.length_singleton] at this; omega
      have := top_le.mp (Nat.le_refl (top (R.map fun r => r ++ [t]))) (r0 ++ [t]) (List.mem_map.mpr ⟨r0, hr0, rfl⟩)
      omega
  have ec : ∀ n, cntR (R.map fun r => r ++ [t]) (n + 1) = cntR R n := fun n => by
    unfold cntR
    rw [List.countP_map]
    congr 2
    funext r
    show decide ((r ++ [t]).length = n + 1) = decide (r.length = n)
    rw [List.length_append, List.length_singleton]
    by_cases h : r.length = n
    · rw [decide_eq_true h, decide_eq_true (by omega)]
    · rw [decide_eq_false h, decide_eq_false (by omega)]
  have e0 : cntR (R.map fun r => r ++ [t]) 0 = 0 := by
    unfold cntR
    rw [List.countP_eq_zero.mpr]
    · rfl
    · intro x hx e
      obtain ⟨y, _, rfl⟩ := List.mem_map.mp hx
      have := of_decide_eq_true e
      rw [List.length_append, List.length_singleton] at this; omega
  unfold vecR
  rw [et, List.range_succ_eq_map, List.map_cons, e0, List.map_map]
  congr 1
  refine List.map_congr_left fun k _ => ?_
  exact (ec k).symm
theorem vec_perm {R S : List (List Int)} (h : R.Perm S) : vecR R = vecR S := by
  have et : top R = top S := Nat.le_antisymm (top_le.mpr fun r hr => top_le.mp (Nat.le_refl _) r (h.mem_iff.mp hr)) (top_le.mpr fun r hr => top_le.mp (Nat.le_refl _) r (h.mem_iff.mpr hr))
  unfold vecR
  rw [et]
  refine List.map_congr_left fun k _ => ?_
  unfold cntR
  rw [h.countP_eq]
def IsMin (S : Int → Prop) : Option Int → Prop
  | none => ∀ v, ¬ S v
  | some m => S m ∧ ∀ v, S v → m ≤ v
theorem min_one {S : Int → Prop} : ∀ {o o' : Option Int}, IsMin S o → IsMin S o' → o = o'
  | none, none, _, _ => rfl
  | none, some m, h, h' => absurd h'.1 (h m)
  | some m, none, h, h' => absurd h.1 (h' m)
  | some m, some m', h, h' => by
    have h1 := h.2 _ h'.1
    have h2 := h'.2 _ h.1
    have : m = m' := by omega
    rw [this]
def lstV (v : List Int) : Nat → Option Int
  | 0 => none
  | i + 1 => match lstV v i with
    | some k => some k
    | none => if 0 < v.getD i 0 then some (i : Int) else none
theorem lst_facts (v : List Int) : ∀ i, match lstV v i with
    | none => ∀ k : Nat, k < i → ¬ 0 < v.getD k 0
    | some m => ∃ k : Nat, m = (k : Int) ∧ k < i ∧ 0 < v.getD k 0 ∧ ∀ k' : Nat, k' < k → ¬ 0 < v.getD k' 0
  | 0 => fun k h => absurd h (Nat.not_lt_zero k)
  | i + 1 => by
    have ih := lst_facts v i
    show match (match lstV v i with
      | some k => some k
      | none => if 0 < v.getD i 0 then some (i : Int) else none) with
    | none => ∀ k : Nat, k < i + 1 → ¬ 0 < v.getD k 0
    | some m => ∃ k : Nat, m = (k : Int) ∧ k < i + 1 ∧ 0 < v.getD k 0 ∧ ∀ k' : Nat, k' < k → ¬ 0 < v.getD k' 0
    cases e : lstV v i with
    | some m =>
      rw [e] at ih
      obtain ⟨k, h1, h2, h3, h4⟩ := ih
      exact ⟨k, h1, by omega, h3, h4⟩
    | none =>
      rw [e] at ih
      dsimp only at ih ⊢
      by_cases c : 0 < v.getD i 0
      · rw [if_pos c]
        exact ⟨i, rfl, by omega, c, ih⟩
      · rw [if_neg c]
        intro k hk
        rcases Nat.lt_or_eq_of_le (Nat.le_of_lt_succ hk) with h | h
        · exact ih k h
        · rw [h]; exact c
theorem lst_min (R : List (List Int)) : IsMin (fun v => ∃ r ∈ R, v = (r.length : Int)) (lstV (vecR R) (vecR R).length) := by
  have h := lst_facts (vecR R) (vecR R).length
  cases e : lstV (vecR R) (vecR R).length with
  | none =>
    rw [e] at h
    rintro v ⟨r, hr, rfl⟩
    have h2 := h r.length (by rw [vec_len]; exact top_le.mp (Nat.le_refl _) r hr)
    rw [vec_getD] at h2
    exact h2 (cnt_pos.mpr ⟨r, hr, rfl⟩)
  | some m =>
    rw [e] at h
    obtain ⟨k, rfl, h2, h3, h4⟩ := h
    rw [vec_getD, cnt_pos] at h3
    obtain ⟨r, hr, el⟩ := h3
    refine ⟨⟨r, hr, by rw [el]⟩, ?_⟩
    rintro v ⟨x, hx, rfl⟩
    by_cases c : x.length < k
    · have := h4 x.length c
      rw [vec_getD] at this
      exact absurd (cnt_pos.mpr ⟨x, hx, rfl⟩) this
    · omega
end K58
set_option Elab.async false
set_option linter.all false
set_option maxRecDepth 100000
set_option maxHeartbeats 2000000
namespace K58
open PySem PySem.Spec PyProof.Rows L2 Ver
def into (A : List A4) (c j : Nat) : List A4 := A.filter fun a => decide (a.l = oneS c) && decide (a.j = j)
def wayR (A : List A4) (st : Nat) : List Nat → Nat → List (List Int)
  | [], j => if j = st then [[]] else []
  | c :: rs, j => (into A c j).flatMap fun a => (wayR A st rs a.k).map fun r => extR r a.t
theorem into_mem {A : List A4} {c j : Nat} {a : A4} : a ∈ into A c j ↔ a ∈ A ∧ a.l = oneS c ∧ a.j = j := by
  unfold into
  rw [List.mem_filter, Bool.and_eq_true, decide_eq_true_eq, decide_eq_true_eq]
theorem way_mem {T : Ta} {P : List Pl} {A : List A4} (ip : IsPs T P) (ia : IsAs T P A) {st : Nat} {p : Pl} (hp : P[st]? = some p) : ∀ (rs : List Nat) (j : Nat) (r : List Int), r ∈ wayR A st rs j ↔ ∃ q, P[j]? = some q ∧ Path T p rs.reverse r q
  | [], j, r => by
    show r ∈ (if j = st then [[]] else []) ↔ _
    constructor
    · intro h
      by_cases e : j = st
      · rw [if_pos e] at h
        rw [List.mem_singleton.mp h, e]
        exact ⟨p, hp, .nil⟩
      · rw [if_neg e] at h; cases h
    · rintro ⟨q, h1, h2⟩
      obtain ⟨rfl, rfl⟩ := path_nil h2 rfl
      have l1 := (List.getElem?_eq_some_iff.mp hp).1
      have e : j = st := ((List.getElem?_inj (h₀ := l1) ip.nd (i := st) (j := j)).mp (hp.trans h1.symm)).symm
      rw [if_pos e]
      exact List.mem_singleton.mpr rfl
  | c :: rs, j, r => by
    show r ∈ (into A c j).flatMap (fun a => (wayR A st rs a.k).map fun r => extR r a.t) ↔ _
    rw [List.mem_flatMap, List.reverse_cons]
    constructor
    · rintro ⟨a, ha, hr⟩
      obtain ⟨h1, h2, h3⟩ := into_mem.mp ha
      obtain ⟨r', hr', rfl⟩ := List.mem_map.mp hr
      obtain ⟨q, e1, e2⟩ := (way_mem ip ia hp rs a.k r').mp hr'
      obtain ⟨p', x, f1, f2, f3, f4, f5⟩ := (ia.mem a).mp h1
      have : q = p' := Option.some.inj (e1.symm.trans f1)
      subst this
      exact ⟨x.to, by rw [← h3]; exact f3, by rw [f5]; exact .snoc e2 f2 (by rw [← f4]; exact h2)⟩
    · rintro ⟨q, e1, e2⟩
      obtain ⟨r', q', x, g1, g2, g3, g4, g5⟩ := path_snoc e2 rfl
      have rq' : q' ∈ P := (ip.mem q').mpr (path_reach g1 ((ip.mem p).mp (List.mem_of_getElem? hp)))
      obtain ⟨k, lk, ek⟩ := List.mem_iff_getElem.mp rq'
      have ek : P[k]? = some q' := by rw [List.getElem?_eq_getElem lk, ek]
      refine ⟨⟨k, x.l, j, x.t⟩, into_mem.mpr ⟨(ia.mem _).mpr ⟨q', x, ek, g2, by rw [← g4]; exact e1, rfl, rfl⟩, g3, rfl⟩, ?_⟩
      rw [g5]
      exact List.mem_map.mpr ⟨r', (way_mem ip ia hp rs k r').mpr ⟨q', ek, g1⟩, rfl⟩
theorem nodup_flatW {α β : Type} {f : α → List β} : ∀ {l : List α}, l.Nodup → (∀ a ∈ l, (f a).Nodup) → (∀ a ∈ l, ∀ b ∈ l, a ≠ b → ∀ x, x ∈ f a → x ∈ f b → False) → (l.flatMap f).Nodup
  | [], _, _, _ => List.nodup_nil
  | a :: l, nd, h1, h2 => by
    obtain ⟨n1, n2⟩ := List.nodup_cons.mp nd
    rw [List.flatMap_cons]
    refine List.nodup_append.mpr ⟨h1 a List.mem_cons_self, nodup_flatW n2 (fun b hb => h1 b (List.mem_cons_of_mem _ hb)) (fun b hb c hc => h2 b (List.mem_cons_of_mem _ hb) c (List.mem_cons_of_mem _ hc)), fun x hx y hy e => ?_⟩
    subst e
    obtain ⟨b, hb, hxb⟩ := List.mem_flatMap.mp hy
    exact h2 a List.mem_cons_self b (List.mem_cons_of_mem _ hb) (fun e => n1 (by rw [e]; exact hb)) x hx hxb
theorem nodup_map' {α β : Type} {f : α → β} (h : ∀ a b, f a = f b → a = b) : ∀ {l : List α}, l.Nodup → (l.map f).Nodup
  | [], _ => List.nodup_nil
  | x :: l, nd => by
    obtain ⟨n1, n2⟩ := List.nodup_cons.mp nd
    rw [List.map_cons]
    refine List.nodup_cons.mpr ⟨fun m => ?_, nodup_map' h n2⟩
    obtain ⟨y, hy, e⟩ := List.mem_map.mp m
    rw [h y x e] at hy
    exact n1 hy
theorem extR_inj {t : Int} (a b : List Int) (h : extR a t = extR b t) : a = b := by
  unfold extR at h
  by_cases c : 0 ≤ t
  · rw [if_pos c, if_pos c] at h
    exact (List.append_inj' h rfl).1
  · rw [if_neg c, if_neg c] at h
    exact h
theorem arc_tok {T : Ta} {p : Pl} {a : Ar} (h : IsArc T p a) : a.t = -1 ∨ 0 ≤ a.t := by
  cases h with
  | ahead => exact .inl rfl
  | inner => exact .inl rfl
  | ends => exact .inr (by show (0 : Int) ≤ ((_ : Nat) : Int); omega)
theorem way_nodup {T : Ta} {P : List Pl} {A : List A4} (ok : T.Ok) (ip : IsPs T P) (ia : IsAs T P A) {hd : List Nat} {s : Int} (so : StOk T hd s) {st : Nat} (hp : P[st]? = some (startP T hd s)) : ∀ (rs : List Nat) (j : Nat), (wayR A st rs j).Nodup
  | [], j => by
    show (if j = st then [[]] else []).Nodup
    split
    · exact List.pairwise_singleton _ _
    · exact List.nodup_nil
  | c :: rs, j => by
    refine nodup_flatW (ia.nd.filter _) (fun a _ => nodup_map' extR_inj (way_nodup ok ip ia so hp rs a.k)) fun a ha b hb ne x hxa hxb => ?_
    obtain ⟨a1, a2, a3⟩ := into_mem.mp ha
    obtain ⟨b1, b2, b3⟩ := into_mem.mp hb
    obtain ⟨ra, hra, ea⟩ := List.mem_map.mp hxa
    obtain ⟨rb, hrb, eb⟩ := List.mem_map.mp hxb
    obtain ⟨qa, pa1, pa2⟩ := (way_mem ip ia hp rs a.k ra).mp hra
    obtain ⟨qb, pb1, pb2⟩ := (way_mem ip ia hp rs b.k rb).mp hrb
    obtain ⟨pa, xa, fa1, fa2, fa3, fa4, fa5⟩ := (ia.mem a).mp a1
    obtain ⟨pb, xb, fb1, fb2, fb3, fb4, fb5⟩ := (ia.mem b).mp b1
    have : qa = pa := Option.some.inj (pa1.symm.trans fa1)
    subst this
    have : qb = pb := Option.some.inj (pb1.symm.trans fb1)
    subst this
    have oa := (path_own ok so _ rfl).mp pa2
    have ob := (path_own ok so _ rfl).mp pb2
    have et : xa.to = xb.to := by
      rw [a3] at fa3
      rw [b3] at fb3
      exact Option.some.inj (fa3.symm.trans fb3)
    have key : ra = rb → a.t = b.t → False := fun er e => by
      subst er
      have := own_one oa ob
      subst this
      have lk := (List.getElem?_eq_some_iff.mp pa1).1
      have ek : a.k = b.k := (List.getElem?_inj (h₀ := lk) ip.nd (i := a.k) (j := b.k)).mp (pa1.trans pb1.symm)
      apply ne
      obtain ⟨k, l, j1, t⟩ := a
      obtain ⟨k', l', j2, t'⟩ := b
      have ek : k = k' := ek
      have e : t = t' := e
      have e2 : l = l' := a2.trans b2.symm
      have e3 : j1 = j2 := a3.trans b3.symm
      rw [ek, e, e2, e3]
    have mix : ∀ {ra rb : List Int} {q q' : Pl} {x y : Ar}, OwnWay T hd s rs.reverse ra q → OwnWay T hd s rs.reverse rb q' → IsArc T q x → IsArc T q' y → x.to = y.to → x.t = -1 → 0 ≤ y.t → False := by
      intro ra rb q q' x y o1 o2 i1 i2 e e1 e2
      cases i2 with
      | ahead => exact absurd (show (0 : Int) ≤ -1 from e2) (by decide)
      | inner => exact absurd (show (0 : Int) ≤ -1 from e2) (by decide)
      | @ends d t n1 =>
        cases i1 with
        | ahead f1 f2 =>
          refine n1 ⟨f1, ?_⟩
          rw [o2.2.1, ← o1.2.1]
          have := (List.getElem?_eq_some_iff.mp f2).1
          rw [glen] at this
          exact this
        | @inner d' f1 f2 f3 =>
          have eu := congrArg Pl.u e
          have eu : q.u ++ oneS d' = "" := eu
          have := congrArg cl eu
          rw [cl_app, cl_one, cl_nil] at this
          exact absurd this (by simp)
        | ends => exact absurd e1 (by show ¬ (((_ : Nat) : Int) = -1); omega)
    rcases arc_tok fa2 with ta | ta
    · rcases arc_tok fb2 with tb | tb
      · rw [fa5, ta, extR_neg] at ea
        rw [fb5, tb, extR_neg] at eb
        exact key (ea.trans eb.symm) (by rw [fa5, fb5, ta, tb])
      · exact mix oa ob fa2 fb2 et ta tb
    · rcases arc_tok fb2 with tb | tb
      · exact mix ob oa fb2 fa2 et.symm tb ta
      · rw [fa5, extR_pos ta] at ea
        rw [fb5, extR_pos tb] at eb
        obtain ⟨e1, e2⟩ := List.append_inj' (ea.trans eb.symm) rfl
        exact key e1 (by rw [fa5, fb5]; exact (List.cons.inj e2).1)
theorem way_own {T : Ta} {P : List Pl} {A : List A4} (ok : T.Ok) (ip : IsPs T P) (ia : IsAs T P A) {hd : List Nat} {s : Int} (so : StOk T hd s) {st : Nat} (hp : P[st]? = some (startP T hd s)) {cs : List Nat} {j : Nat} {q : Pl} (hj : P[j]? = some q) {R : List (List Int)} (nd : R.Nodup) (hR : ∀ r, r ∈ R ↔ OwnWay T hd s cs r q) :
    vecR (wayR A st cs.reverse j) = vecR R := by
  refine vec_perm ((List.perm_ext_iff_of_nodup (way_nodup ok ip ia so hp _ _) nd).mpr fun r => ?_)
  rw [way_mem ip ia hp, hR, List.reverse_reverse]
  constructor
  · rintro ⟨q', h1, h2⟩
    rw [hj] at h1
    rw [Option.some.inj h1]
    exact (path_own ok so _ rfl).mp h2
  · exact fun h => ⟨q, hj, (path_own ok so _ rfl).mpr h⟩
theorem look_map_put {l : List (Int × Int)} {t v j : Int} : look (l.map fun x => if x.1 = t then (x.1, v) else x) j = if t = j then (look l t).map (fun _ => v) else look l j := by
  induction l with
  | nil =>
    show none = _
    split <;> rfl
  | cons x l ih =>
    unfold look at ih ⊢
    rw [List.map_cons]
    by_cases c : x.1 = t
    · rw [if_pos c]
      by_cases d : t = j
      · rw [if_pos d, List.find?_cons_of_pos (by simp [c, d]), List.find?_cons_of_pos (by simp [c])]
        rfl
      · rw [if_neg d, List.find?_cons_of_neg (by simp [c, d]), List.find?_cons_of_neg (by simp [c, d]), ih, if_neg d]
    · rw [if_neg c]
      by_cases d : t = j
      · rw [if_pos d, List.find?_cons_of_neg (by simp [← d, c]), List.find?_cons_of_neg (by simp [c]), ih, if_pos d]
      · rw [if_neg d]
        by_cases e : x.1 = j
        · rw [List.find?_cons_of_pos (by simp [e]), List.find?_cons_of_pos (by simp [e])]
        · rw [List.find?_cons_of_neg (by simp [e]), List.find?_cons_of_neg (by simp [e]), ih, if_neg d]
theorem look_put {l : List (Int × Int)} {t v j : Int} : look (putL l t v) j = if t = j then some v else look l j := by
  unfold putL
  by_cases c : (look l t).isSome = true
  · rw [if_pos c, look_map_put]
    split
    · cases e : look l t with
      | none => rw [e] at c; cases c
      | some x => rfl
    · rfl
  · rw [if_neg c]
    have hn : look l t = none := by
      cases q : look l t with
      | none => rfl
      | some y => rw [q] at c; exact absurd rfl c
    unfold look at hn ⊢
    rw [List.find?_append]
    by_cases d : t = j
    · subst d
      have hf : l.find? (fun x => decide (x.1 = t)) = none := by
        cases q : l.find? (fun x => decide (x.1 = t)) with
        | none => rfl
        | some y => rw [q] at hn; cases hn
      rw [hf, if_pos rfl]
      simp
    · rw [if_neg d]
      have hf : [(t, v)].find? (fun x => decide (x.1 = j)) = none := by simp [d]
      rw [hf]
      cases l.find? (fun x => decide (x.1 = j)) <;> rfl
theorem min_congr {S S' : Int → Prop} (h : ∀ v, S v ↔ S' v) : ∀ {o : Option Int}, IsMin S o → IsMin S' o
  | none, k => fun v s => k v ((h v).mpr s)
  | some m, k => ⟨(h m).mp k.1, fun v s => k.2 v ((h v).mpr s)⟩
theorem min_put {S : Int → Prop} {l : List (Int × Int)} {t v j : Int} (h : IsMin S (look l j)) : IsMin (fun x => S x ∨ (t = j ∧ x = v)) (look (putMin l t v) j) := by
  by_cases d : t = j
  · subst d
    unfold putMin
    cases e : look l t with
    | none =>
      rw [e] at h
      dsimp only
      rw [look_put, if_pos rfl]
      exact ⟨.inr ⟨rfl, rfl⟩, fun x hx => hx.elim (fun s => absurd s (h x)) fun s => by rw [s.2]; exact Int.le_refl _⟩
    | some c =>
      rw [e] at h
      dsimp only
      by_cases lt : v < c
      · rw [if_pos lt, look_put, if_pos rfl]
        exact ⟨.inr ⟨rfl, rfl⟩, fun x hx => hx.elim (fun s => by have := h.2 x s; omega) fun s => by rw [s.2]; exact Int.le_refl _⟩
      · rw [if_neg lt, e]
        exact ⟨.inl h.1, fun x hx => hx.elim (fun s => h.2 x s) fun s => by rw [s.2]; omega⟩
  · have e : look (putMin l t v) j = look l j := by
      unfold putMin
      split
      · rw [look_put, if_neg d]
      · split
        · rw [look_put, if_neg d]
        · rfl
    rw [e]
    exact min_congr (fun x => ⟨.inl, fun h => h.resolve_right fun s => d s.1⟩) h
theorem min_fold {j p : Int} : ∀ {ys : List (Int × Int)} {S : Int → Prop} {acc : List (Int × Int)}, IsMin S (look acc j) → IsMin (fun x => S x ∨ ∃ y ∈ ys, y.1 = j ∧ x = p + y.2) (look (ys.foldl (fun acc y => putMin acc y.1 (p + y.2)) acc) j)
  | [], S, acc, h => min_congr (fun x => ⟨.inl, fun k => k.resolve_right fun ⟨y, hy, _⟩ => by cases hy⟩) h
  | y :: ys, S, acc, h => by
    rw [List.foldl_cons]
    refine min_congr (fun x => ?_) (min_fold (ys := ys) (min_put (t := y.1) (v := p + y.2) h))
    constructor
    · rintro ((h | ⟨h1, h2⟩) | ⟨z, hz, h1, h2⟩)
      · exact .inl h
      · exact .inr ⟨y, List.mem_cons_self, h1, h2⟩
      · exact .inr ⟨z, List.mem_cons_of_mem _ hz, h1, h2⟩
    · rintro (h | ⟨z, hz, h1, h2⟩)
      · exact .inl (.inl h)
      · rcases List.mem_cons.mp hz with rfl | hz
        · exact .inl (.inr ⟨h1, h2⟩)
        · exact .inr ⟨z, hz, h1, h2⟩
theorem min_behind {st : Int → List (Int × Int)} {j : Int} (l : List (Int × Int)) : IsMin (fun v => ∃ x ∈ l, ∃ y ∈ st x.1, y.1 = j ∧ v = x.2 + y.2) (look (behindL l st) j) := by
  have key : ∀ (l : List (Int × Int)) {S : Int → Prop} {acc : List (Int × Int)}, IsMin S (look acc j) → IsMin (fun v => S v ∨ ∃ x ∈ l, ∃ y ∈ st x.1, y.1 = j ∧ v = x.2 + y.2) (look (l.foldl (fun acc x => (st x.1).foldl (fun acc y => putMin acc y.1 (x.2 + y.2)) acc) acc) j) := by
    intro l
    induction l with
    | nil => exact fun h => min_congr (fun x => ⟨.inl, fun k => k.resolve_right fun ⟨y, hy, _⟩ => by cases hy⟩) h
    | cons z l ih =>
      intro S acc h
      rw [List.foldl_cons]
      refine min_congr (fun v => ?_) (ih (min_fold (p := z.2) (ys := st z.1) h))
      constructor
      · rintro ((h | ⟨y, hy, h1, h2⟩) | ⟨x, hx, h1⟩)
        · exact .inl h
        · exact .inr ⟨z, List.mem_cons_self, y, hy, h1, h2⟩
        · exact .inr ⟨x, List.mem_cons_of_mem _ hx, h1⟩
      · rintro (h | ⟨x, hx, y, hy, h1, h2⟩)
        · exact .inl (.inl h)
        · rcases List.mem_cons.mp hx with rfl | hx
          · exact .inl (.inr ⟨y, hy, h1, h2⟩)
          · exact .inr ⟨x, hx, y, hy, h1, h2⟩
  have := key l (S := fun _ => False) (acc := []) (fun v h => h)
  exact min_congr (fun v => ⟨fun h => h.resolve_left id, .inr⟩) this
theorem look_mem {l : List (Int × Int)} {t m : Int} (h : look l t = some m) : (t, m) ∈ l := by
  unfold look at h
  cases q : l.find? (fun x => decide (x.1 = t)) with
  | none => rw [q] at h; cases h
  | some y =>
    rw [q] at h
    have e1 : y.1 = t := by simpa using List.find?_some q
    have e2 : y.2 = m := Option.some.inj h
    have := List.mem_of_find?_eq_some q
    obtain ⟨a, b⟩ := y
    have e1 : a = t := e1
    have e2 : b = m := e2
    rw [← e1, ← e2]
    exact this
theorem mem_look : ∀ {l : List (Int × Int)} {x : Int × Int}, (l.map (·.1)).Nodup → x ∈ l → look l x.1 = some x.2
  | [], x, _, h => by cases h
  | y :: l, x, nd, h => by
    rw [List.map_cons] at nd
    obtain ⟨n1, n2⟩ := List.nodup_cons.mp nd
    rcases List.mem_cons.mp h with rfl | h
    · unfold look
      rw [List.find?_cons_of_pos (by simp)]
      rfl
    · have ne : ¬ y.1 = x.1 := fun e => n1 (by rw [e]; exact List.mem_map.mpr ⟨x, h, rfl⟩)
      have := mem_look n2 h
      unfold look at this ⊢
      rw [List.find?_cons_of_neg (by simp [ne])]
      exact this
def costA (a : A4) : A4 := ⟨a.k, a.l, a.j, costT a.t⟩
theorem ext_len (r : List Int) (t : Int) : ((extR r t).length : Int) = r.length + costT t := by
  unfold extR costT
  by_cases c : 0 ≤ t
  · rw [if_pos c, if_pos c, List.length_append, List.length_singleton]; omega
  · rw [if_neg c, if_neg c]; omega
theorem walkB_snoc (A : List A4) (cs : List Nat) (c : Nat) (l : List (Int × Int)) : walkB A (cs ++ [c]) l = behindL (walkB A cs l) (stepsOf A (oneS c)) := by
  unfold walkB
  rw [List.foldl_append]
  rfl
theorem steps_mem {A : List A4} {c : Nat} {h : Int} {y : Int × Int} : y ∈ stepsOf (A.map costA) (oneS c) h ↔ ∃ a ∈ A, a.l = oneS c ∧ (a.k : Int) = h ∧ y = ((a.j : Int), costT a.t) := by
  unfold stepsOf
  rw [List.mem_map]
  constructor
  · rintro ⟨x, hx, rfl⟩
    rw [List.mem_filter, Bool.and_eq_true, decide_eq_true_eq, decide_eq_true_eq] at hx
    obtain ⟨h1, h2, h3⟩ := hx
    obtain ⟨a, ha, rfl⟩ := List.mem_map.mp h1
    exact ⟨a, ha, h2, h3, rfl⟩
  · rintro ⟨a, ha, h1, h2, rfl⟩
    exact ⟨costA a, by rw [List.mem_filter, Bool.and_eq_true, decide_eq_true_eq, decide_eq_true_eq]; exact ⟨List.mem_map.mpr ⟨a, ha, rfl⟩, h1, h2⟩, rfl⟩
theorem walk_min {A : List A4} {n st : Nat} (ha : ∀ a ∈ A, a.k < n ∧ a.j < n) (hst : st < n) : ∀ (rs : List Nat), KeysOk n (walkB (A.map costA) rs.reverse [((st : Int), 0)]) ∧ ∀ j : Nat, IsMin (fun v => ∃ r ∈ wayR A st rs j, v = (r.length : Int)) (look (walkB (A.map costA) rs.reverse [((st : Int), 0)]) (j : Int))
  | [] => by
    refine ⟨⟨List.pairwise_singleton _ _, fun k hk => by rw [List.mem_singleton.mp hk]; exact ⟨by show (0 : Int) ≤ (st : Int); omega, by show (st : Int) < n; omega⟩⟩, fun j => ?_⟩
    show IsMin _ (look [((st : Int), 0)] (j : Int))
    by_cases e : j = st
    · subst e
      have : look [((j : Int), 0)] (j : Int) = some 0 := by unfold look; simp
      rw [this]
      refine ⟨⟨[], by show [] ∈ (if j = j then [[]] else []); rw [if_pos rfl]; exact List.mem_cons_self, rfl⟩, ?_⟩
      rintro v ⟨r, _, rfl⟩
      omega
    · have : look [((st : Int), 0)] (j : Int) = none := by
        unfold look
        rw [List.find?_cons_of_neg (by simp; omega)]
        rfl
      rw [this]
      rintro v ⟨r, hr, _⟩
      have hr : r ∈ (if j = st then [[]] else []) := hr
      rw [if_neg e] at hr
      cases hr
  | c :: rs => by
    obtain ⟨ko, ih⟩ := walk_min ha hst rs
    rw [List.reverse_cons, walkB_snoc]
    generalize walkB (A.map costA) rs.reverse [((st : Int), 0)] = l at ko ih ⊢
    refine ⟨behind_keys (fun k => stepsOf_rng (fun a h => by
      obtain ⟨b, hb, rfl⟩ := List.mem_map.mp h
      exact (ha b hb).2) _ k) l, fun j => ?_⟩
    have hb := min_behind (st := stepsOf (A.map costA) (oneS c)) (j := (j : Int)) l
    have toR : ∀ v, (∃ x ∈ l, ∃ y ∈ stepsOf (A.map costA) (oneS c) x.1, y.1 = (j : Int) ∧ v = x.2 + y.2) → ∃ r ∈ wayR A st (c :: rs) j, v = (r.length : Int) := by
      rintro v ⟨x, hx, y, hy, e1, e2⟩
      obtain ⟨a, ha', f1, f2, rfl⟩ := steps_mem.mp hy
      have e1 : (a.j : Int) = (j : Int) := e1
      have e2 : v = x.2 + costT a.t := e2
      have lk := mem_look ko.nd hx
      rw [← f2] at lk
      have m := ih a.k
      rw [lk] at m
      obtain ⟨⟨r, hr, er⟩, _⟩ := m
      refine ⟨extR r a.t, List.mem_flatMap.mpr ⟨a, into_mem.mpr ⟨ha', f1, by omega⟩, List.mem_map.mpr ⟨r, hr, rfl⟩⟩, ?_⟩
      rw [ext_len, e2, er]
    have fromR : ∀ r ∈ wayR A st (c :: rs) j, ∃ v, v ≤ (r.length : Int) ∧ ∃ x ∈ l, ∃ y ∈ stepsOf (A.map costA) (oneS c) x.1, y.1 = (j : Int) ∧ v = x.2 + y.2 := by
      intro r hr
      obtain ⟨a, ha', hr'⟩ := List.mem_flatMap.mp hr
      obtain ⟨f1, f2, f3⟩ := into_mem.mp ha'
      obtain ⟨r', hr2, rfl⟩ := List.mem_map.mp hr'
      have m := ih a.k
      cases lk : look l (a.k : Int) with
      | none =>
        rw [lk] at m
        exact absurd ⟨r', hr2, rfl⟩ (m _)
      | some x =>
        rw [lk] at m
        have := m.2 _ ⟨r', hr2, rfl⟩
        refine ⟨x + costT a.t, by rw [ext_len]; omega, ((a.k : Int), x), look_mem lk, ((a.j : Int), costT a.t), steps_mem.mpr ⟨a, f1, f2, rfl, rfl⟩, by rw [f3], rfl⟩
    cases e : look (behindL l (stepsOf (A.map costA) (oneS c))) (j : Int) with
    | none =>
      rw [e] at hb
      rintro v ⟨r, hr, rfl⟩
      obtain ⟨v, _, hv⟩ := fromR r hr
      exact hb v hv
    | some m =>
      rw [e] at hb
      refine ⟨toR m hb.1, ?_⟩
      rintro v ⟨r, hr, rfl⟩
      obtain ⟨v, h1, hv⟩ := fromR r hr
      have := hb.2 v hv
      omega
end K58
set_option Elab.async false
set_option linter.all false
set_option maxRecDepth 100000
set_option maxHeartbeats 2000000
namespace K58
open PySem PySem.Spec PyProof.Rows L2 Ver
theorem sl_listK {X : Cx} {K : PySem.W.Frag} (h : X.K = K) : SlR X (rSlL K) := by subst h; exact sl_list
theorem cr_sumK {X : Cx} {K : PySem.W.Frag} (h : X.K = K) (hc : X.calm = true) : CallR X (.builtin "sum") (rSum K) := by subst h; exact cr_sum hc
theorem cut_one (x : List Int) (k : Nat) : cutV (x.map V.int) (some (k : Int)) (some ((k : Int) + 1)) = ((x.drop k).take 1).map V.int := by
  unfold cutV
  rw [show ((k : Int) + 1) = ((k + 1 : Nat) : Int) by omega, HT.sIx_nat, HT.sIx_nat, List.length_map]
  by_cases h : k < x.length
  · rw [Nat.min_eq_left (by omega), Nat.min_eq_left (by omega), Nat.add_sub_cancel_left, List.map_take, List.map_drop]
  · rw [Nat.min_eq_right (by omega), Nat.min_eq_right (by omega), Nat.sub_self, List.take_zero, List.drop_of_length_le (by omega)]
    rfl
theorem sum_one (x : List Int) (k : Nat) : ((x.drop k).take 1).sum = x.getD k 0 := by
  rw [List.getD_eq_getElem?_getD]
  by_cases h : k < x.length
  · rw [List.drop_eq_getElem_cons h, List.getElem?_eq_getElem h]
    show (List.take 1 (x[k] :: List.drop (k + 1) x)).sum = x[k]
    rw [List.take_succ_cons, List.take_zero]
    show x[k] + 0 = x[k]
    omega
  · rw [List.drop_of_length_le (by omega), List.getElem?_eq_none (by omega)]
    rfl
section
variable {P : Program} {w : World} {K : PySem.W.Frag} {mg : Str → Option Value} {base : Heap}
def sp__law_sum (K : PySem.W.Frag) : Sp := fun vs H Q _ => ∃ (a b : Addr) (x y : List Int), vs = [.ref a, .ref b] ∧ H a = some (.lst (x.map V.int)) ∧ H b = some (.lst (y.map V.int)) ∧ x.length ≤ 100 ∧ y.length ≤ 100 ∧
  ∀ c H', Same H H' → H c = none → H' c = some (.lst ((sumL x y).map V.int)) → Q (.ref c) H'
theorem ok__law_sum (T : Tx K mg) : FnOk P w K mg base CX0 1 T.f__law_sum T.d__law_sum ["one", "other"] (sp__law_sum K) := by
  refine T.F__law_sum.ok sc__law_sum (fun vs H Q E h => ?_) (fun cdv A outer s H vs Q E hr h => ?_)
  · obtain ⟨a, b, x, y, rfl, _⟩ := h; rfl
  · obtain ⟨a, b, x, y, rfl, ha, hb, lx, ly, q⟩ := h
    refine ⟨_, (pss_cons (ps_set (i := 2) sc__law_sum.nd rfl (Or.inl rfl) (pe_callB (call_max2 rfl) (by rfl) T.n_max (by decide +kernel) (pa_cons (pe_callB call_len_seq (by rfl) T.n_len (by decide +kernel) (pa_cons (pv 0) pa_nil)) (pa_cons (pe_callB call_len_seq (by rfl) T.n_len (by decide +kernel) (pa_cons (pv 1) pa_nil)) pa_nil))))
    (pss_one (ps_ret (pe_lc (own := [("k", 3)]) (g := gName 3) (tt := tYes) (by rfl) sc__law_sum.nd (pi_range1 rfl T.n_range (pa_cons (pv 2) pa_nil)) (blkOk_by (N := ["one", "other", "many", "k"]) (sc := defScope s__law_sum) (by decide +kernel)) (fun _ _ _ _ _ => (pg_name (i := 3) sc__law_sum.nd rfl (Or.inl rfl))) (fun _ _ _ _ _ => pts_nil) (fun _ _ _ _ _ => (pe_op op_add (pe_callB (cr_sumK (K := K) rfl rfl) (by rfl) T.n_sum (by decide +kernel) (pa_cons (pe_slice (sl_listK (K := K) rfl) (pv 0) (po_some (pv 3)) (po_some (pe_op op_add (pv 3) pe_int))) pa_nil)) (pe_callB (cr_sumK (K := K) rfl rfl) (by rfl) T.n_sum (by decide +kernel) (pa_cons (pe_slice (sl_listK (K := K) rfl) (pv 1) (po_some (pv 3)) (po_some (pe_op op_add (pv 3) pe_int))) pa_nil)))))))), ?_⟩
    refine ⟨.ref a, rfl, a, _, rfl, .inl (.inl (.inl ha)), .ref b, rfl, b, _, rfl, .inl (.inl (.inl hb)), _, _, rfl, ?_⟩
    rw [List.length_map, List.length_map]
    have em : (if ((y.length : Nat) : Int) > ((x.length : Nat) : Int) then ((y.length : Nat) : Int) else ((x.length : Nat) : Int)) = ((max x.length y.length : Nat) : Int) := by
      split <;> omega
    rw [em]
    have lm : max x.length y.length ≤ 100 := by omega
    generalize em2 : max x.length y.length = m at lm
    refine ⟨.int (m : Nat), rfl, (m : Nat), rfl, by omega, by omega, fun F nF => ?_⟩
    refine lc_range (lo := 0) (n := ((m : Nat) : Int).toNat) (fun k H' => Same H H' ∧ H' F = some (.lst (((List.range k).map fun k => x.getD k 0 + y.getD k 0).map V.int))) ⟨same_new nF, upd_same⟩ (fun k H' lt h => ?_) (fun H' h => ?_)
    · obtain ⟨s1, hF⟩ := h
      rw [Int.toNat_natCast] at lt
      refine ⟨wipe_one _ _ _, ?_⟩
      refine yes_on ?_
      rw [Int.zero_add]
      refine ⟨.ref a, rfl, .int (k : Nat), rfl, (k : Nat), rfl, .int (k : Nat), rfl, _, _, rfl, rfl, _, rfl, a, _, rfl, .inl (.inl (s1 _ _ ha)), fun p np => ?_⟩
      rw [cut_one]
      have sp := same_new (o := .lst (((x.drop k).take 1).map V.int)) np
      have hp : (upd H' p (.lst (((x.drop k).take 1).map V.int))) p = some (.lst (((x.drop k).take 1).map V.int)) := upd_same
      generalize upd H' p (.lst (((x.drop k).take 1).map V.int)) = H2 at sp hp ⊢
      refine ⟨p, _, rfl, .inl (.inl hp), ?_⟩
      rw [sum_one]
      refine ⟨.ref b, rfl, .int (k : Nat), rfl, (k : Nat), rfl, .int (k : Nat), rfl, _, _, rfl, rfl, _, rfl, b, _, rfl, .inl (.inl (sp _ _ (s1 _ _ hb))), fun p2 np2 => ?_⟩
      rw [cut_one]
      have sp2 := same_new (o := .lst (((y.drop k).take 1).map V.int)) np2
      have hp2 : (upd H2 p2 (.lst (((y.drop k).take 1).map V.int))) p2 = some (.lst (((y.drop k).take 1).map V.int)) := upd_same
      generalize upd H2 p2 (.lst (((y.drop k).take 1).map V.int)) = H3 at sp2 hp2 ⊢
      refine ⟨p2, _, rfl, .inl (.inl hp2), ?_⟩
      rw [sum_one]
      refine ⟨_, _, rfl, rfl, _, sp2 _ _ (sp _ _ hF), small (by rw [List.length_map, List.length_map, List.length_range]; omega), same_upd2 ((s1.trans sp).trans sp2) nF, ?_⟩
      rw [upd_same, List.range_succ, List.map_append, List.map_append]
      rfl
    · obtain ⟨s1, hF⟩ := h
      rw [Int.toNat_natCast, ← em2] at hF
      exact q F H' s1 nF hF
end
end K58
set_option Elab.async false
set_option linter.all false
set_option maxRecDepth 100000
set_option maxHeartbeats 2000000
namespace K58
open PySem PySem.Spec PyProof.Rows L2 Ver
def Fit (T : Ta) (s : Int) (body : List Nat) (r : List Int) : Prop := InR T r ∧ rowL T.ts r <+: body ∧ 0 ≤ runG T.tab s r
theorem fit_pre {T : Ta} {s : Int} {body : List Nat} {r : List Int} {t : Int} (s0 : 0 ≤ s) (h : Fit T s body (r ++ [t])) : Fit T s body r := by
  obtain ⟨h1, h2, h3⟩ := h
  refine ⟨fun y hy => h1 y (List.mem_append_left _ hy), ?_, run_pre s0 h3⟩
  rw [rowL_snoc] at h2
  exact List.IsPrefix.trans (List.prefix_append _ _) h2
def endP (T : Ta) (i : Nat) (s : Int) (body : List Nat) (r : List Int) : Pl := ⟨i, runG T.tab s r, ⟨(body.drop (rowL T.ts r).length).toArray⟩⟩
def leads (T : Ta) (i : Nat) (s : Int) (body : List Nat) (q : Pl) (r : List Int) : Bool := decide (endP T i s body r = q) && isInn T.ts q.u
structure OpenW (T : Ta) (s : Int) (body : List Nat) (Dn Pi : List (List Int)) : Prop where
  nd : (Dn ++ Pi).Nodup
  fit : ∀ r ∈ Dn ++ Pi, Fit T s body r
  nil : [] ∈ Dn ++ Pi
  up : ∀ r t, r ++ [t] ∈ Dn ++ Pi → r ∈ Dn
  kid : ∀ r ∈ Dn, ∀ t, Fit T s body (r ++ [t]) → r ++ [t] ∈ Dn ++ Pi
theorem open_start {T : Ta} {s : Int} {body : List Nat} (s0 : 0 ≤ s) : OpenW T s body [] [[]] :=
  ⟨List.pairwise_singleton _ _, fun r hr => by rw [List.mem_singleton.mp hr]; exact ⟨fun t ht => (by cases ht), List.nil_prefix, s0⟩, List.mem_singleton.mpr rfl, fun r t h => by
    have := List.mem_singleton.mp h
    simp at this, fun r hr => by cases hr⟩
theorem open_all {T : Ta} {s : Int} {body : List Nat} {Dn : List (List Int)} (s0 : 0 ≤ s) (o : OpenW T s body Dn []) : Dn.Nodup ∧ ∀ r, r ∈ Dn ↔ Fit T s body r := by
  obtain ⟨h1, h2, h3, h4, h5⟩ := o
  simp only [List.append_nil] at h1 h2 h3 h4 h5
  refine ⟨h1, fun r => ⟨h2 r, ?_⟩⟩
  have key : ∀ (n : Nat) (r : List Int), r.length = n → Fit T s body r → r ∈ Dn := by
    intro n
    induction n with
    | zero =>
      intro r e _
      rw [List.eq_nil_of_length_eq_zero e]
      exact h3
    | succ n ih =>
      intro r e hf
      have ne : r ≠ [] := fun h => by rw [h] at e; cases e
      obtain ⟨r', t, rfl⟩ : ∃ r' t, r = r' ++ [t] := ⟨_, _, (List.dropLast_concat_getLast ne).symm⟩
      exact h5 r' (ih r' (by rw [List.length_append, List.length_singleton] at e; omega) (fit_pre s0 hf)) t hf
  exact key r.length r rfl
def kidB (T : Ta) (s : Int) (body : List Nat) (r : List Int) (j : Nat) : Bool := decide ((body.drop (rowL T.ts r).length).take (cl (T.ts.getD j "")).length = cl (T.ts.getD j "")) && decide (0 ≤ cellG T.tab (runG T.tab s r) (j : Int))
def kids (T : Ta) (s : Int) (body : List Nat) (r : List Int) (n : Nat) : List (List Int) := ((List.range n).filter (kidB T s body r)).map fun (j : Nat) => r ++ [((j : Nat) : Int)]
theorem kids_succ (T : Ta) (s : Int) (body : List Nat) (r : List Int) (n : Nat) : kids T s body r (n + 1) = kids T s body r n ++ (if kidB T s body r n = true then [r ++ [(n : Int)]] else []) := by
  unfold kids
  rw [List.range_succ, List.filter_append, List.map_append]
  congr 1
  by_cases c : kidB T s body r n = true
  · rw [if_pos c]; simp [c]
  · rw [if_neg c]; simp [c]
theorem kids_len (T : Ta) (s : Int) (body : List Nat) (r : List Int) (n : Nat) : (kids T s body r n).length ≤ n := by
  unfold kids
  rw [List.length_map]
  refine Nat.le_trans (List.length_filter_le _ _) ?_
  rw [List.length_range]
  exact Nat.le_refl n
theorem take_pre {x y z : List Nat} (h : x <+: z) : (z.drop x.length).take y.length = y ↔ x ++ y <+: z := by
  obtain ⟨w, rfl⟩ := h
  rw [List.drop_left]
  constructor
  · intro e
    refine ⟨w.drop y.length, ?_⟩
    rw [List.append_assoc]
    congr 1
    conv => rhs; rw [← List.take_append_drop y.length w, e]
  · rintro ⟨v, e⟩
    rw [List.append_assoc] at e
    rw [← List.append_cancel_left e, List.take_left]
theorem kid_fit {T : Ta} {s : Int} {body : List Nat} {r : List Int} (hf : Fit T s body r) {j : Nat} (hj : j < T.ts.length) : kidB T s body r j = true ↔ Fit T s body (r ++ [(j : Int)]) := by
  obtain ⟨h1, h2, h3⟩ := hf
  have eg : T.ts.getD ((j : Int)).toNat "" = T.ts.getD j "" := by rw [Int.toNat_natCast]
  unfold kidB Fit
  rw [Bool.and_eq_true, decide_eq_true_eq, decide_eq_true_eq, take_pre h2, rowL_snoc, eg, run_snoc h3]
  constructor
  · rintro ⟨a, b⟩
    refine ⟨fun y hy => ?_, a, ?_⟩
    · rcases List.mem_append.mp hy with hy | hy
      · exact h1 y hy
      · rw [List.mem_singleton.mp hy]; omega
    · rw [if_neg (by omega)]; exact b
  · rintro ⟨a, b, c⟩
    refine ⟨b, ?_⟩
    by_cases lt : cellG T.tab (runG T.tab s r) (j : Int) < 0
    · rw [if_pos lt] at c
      exact absurd c (by decide)
    · omega
theorem kids_mem {T : Ta} {s : Int} {body : List Nat} {r : List Int} (hf : Fit T s body r) {x : List Int} : x ∈ kids T s body r T.ts.length ↔ ∃ t, x = r ++ [t] ∧ Fit T s body x := by
  unfold kids
  rw [List.mem_map]
  constructor
  · rintro ⟨j, hj, rfl⟩
    rw [List.mem_filter, List.mem_range] at hj
    exact ⟨_, rfl, (kid_fit hf hj.1).mp hj.2⟩
  · rintro ⟨t, rfl, h⟩
    have ht := h.1 t (List.mem_append_right _ List.mem_cons_self)
    have et : ((t.toNat : Nat) : Int) = t := by omega
    refine ⟨t.toNat, ?_, by rw [et]⟩
    rw [List.mem_filter, List.mem_range]
    have lt : t.toNat < T.ts.length := by omega
    exact ⟨lt, (kid_fit hf lt).mpr (by rw [et]; exact h)⟩
theorem kids_nodup (T : Ta) (s : Int) (body : List Nat) (r : List Int) (n : Nat) : (kids T s body r n).Nodup := by
  unfold kids
  refine nodup_map' (fun a b e => ?_) (List.nodup_range.filter _)
  have := (List.append_inj' e rfl).2
  have := (List.cons.inj this).1
  omega
theorem open_step {T : Ta} {s : Int} {body : List Nat} {Dn Pi : List (List Int)} {r : List Int} (o : OpenW T s body Dn (Pi ++ [r])) : OpenW T s body (Dn ++ [r]) (Pi ++ kids T s body r T.ts.length) := by
  obtain ⟨h1, h2, h3, h4, h5⟩ := o
  have hr : Fit T s body r := h2 r (by simp)
  have p : (Dn ++ (Pi ++ [r])).Perm ((Dn ++ [r]) ++ Pi) := by
    rw [List.append_assoc]
    exact List.Perm.append_left _ List.perm_append_comm
  have old : ∀ x, x ∈ Dn ++ (Pi ++ [r]) ↔ x ∈ (Dn ++ [r]) ++ Pi := fun x => p.mem_iff
  have rn : r ∉ Dn := fun h => (List.nodup_append.mp h1).2.2 r h r (by simp) rfl
  have new : ∀ x, x ∈ kids T s body r T.ts.length → x ∉ Dn ++ (Pi ++ [r]) := fun x hx h => by
    obtain ⟨t, rfl, _⟩ := (kids_mem hr).mp hx
    exact rn (h4 r t h)
  have nd0 : ((Dn ++ [r]) ++ Pi).Nodup := p.nodup_iff.mp h1
  refine ⟨?_, fun x hx => ?_, ?_, fun x t hx => ?_, fun x hx t hf => ?_⟩
  · rw [← List.append_assoc]
    exact List.nodup_append.mpr ⟨nd0, kids_nodup T s body r _, fun a ha b hb e => new b hb (by rw [← e]; exact (old a).mpr ha)⟩
  · rw [← List.append_assoc] at hx
    rcases List.mem_append.mp hx with hx | hx
    · exact h2 x ((old x).mpr hx)
    · exact ((kids_mem hr).mp hx).choose_spec.2
  · rw [← List.append_assoc]
    exact List.mem_append_left _ ((old _).mp h3)
  · rw [← List.append_assoc] at hx
    rcases List.mem_append.mp hx with hx | hx
    · exact List.mem_append_left _ (h4 x t ((old _).mpr hx))
    · obtain ⟨t', e, _⟩ := (kids_mem hr).mp hx
      rw [(List.append_inj' e rfl).1]
      exact List.mem_append_right _ List.mem_cons_self
  · rw [← List.append_assoc]
    rcases List.mem_append.mp hx with hx | hx
    · exact List.mem_append_left _ ((old _).mp (h5 x hx t hf))
    · rw [List.mem_singleton.mp hx] at hf ⊢
      exact List.mem_append_right _ ((kids_mem hr).mpr ⟨t, rfl, hf⟩)
theorem row_le {T : Ta} (ok : T.Ok) : ∀ {r : List Int}, InR T r → r.length ≤ (rowL T.ts r).length
  | [], _ => Nat.zero_le _
  | t :: r, h => by
    have ht := h t List.mem_cons_self
    have lt : t.toNat < T.ts.length := by omega
    have l1 := (ok.len _ (List.getElem_mem lt)).1
    have ih := row_le ok (r := r) fun y hy => h y (List.mem_cons_of_mem _ hy)
    show r.length + 1 ≤ (rowL T.ts (t :: r)).length
    unfold rowL at ih ⊢
    rw [List.flatMap_cons, List.length_append, tok_get ht.1 (List.getElem?_eq_getElem lt), glen]
    omega
theorem lay_of {m : Nat} : ∀ (n : Nat) (r : List Int), r.length = n → (∀ t ∈ r, 0 ≤ t ∧ t < (m : Int)) → r ∈ layG m n
  | 0, r, e, _ => by rw [List.eq_nil_of_length_eq_zero e]; exact List.mem_singleton.mpr rfl
  | n + 1, r, e, h => by
    have ne : r ≠ [] := fun h => by rw [h] at e; cases e
    obtain ⟨r', t, rfl⟩ : ∃ r' t, r = r' ++ [t] := ⟨_, _, (List.dropLast_concat_getLast ne).symm⟩
    have ht := h t (List.mem_append_right _ List.mem_cons_self)
    refine List.mem_flatMap.mpr ⟨r', lay_of n r' (by rw [List.length_append, List.length_singleton] at e; omega) (fun y hy => h y (List.mem_append_left _ hy)), ?_⟩
    refine List.mem_map.mpr ⟨t.toNat, List.mem_range.mpr (by omega), ?_⟩
    rw [show ((t.toNat : Nat) : Int) = t by omega]
theorem uni_rows {m : Nat} (hm : m ≤ 4) : ∀ n, (rowsG m n).length ≤ (n + 1) * 4 ^ n
  | 0 => by
    have : (rowsG m 0).length = 1 := rfl
    rw [this]; decide
  | n + 1 => by
    rw [rowsG_succ, List.length_append, layG_len]
    have h1 := uni_rows hm n
    have h2 : m ^ (n + 1) ≤ 4 ^ (n + 1) := Nat.pow_le_pow_left hm _
    have h3 : (n + 1) * 4 ^ n ≤ (n + 1) * 4 ^ (n + 1) := Nat.mul_le_mul_left _ (Nat.pow_le_pow_right (by decide) (Nat.le_succ n))
    have h4 : (n + 1 + 1) * 4 ^ (n + 1) = (n + 1) * 4 ^ (n + 1) + 4 ^ (n + 1) := Nat.succ_mul _ _
    omega
theorem fit_uni {T : Ta} (ok : T.Ok) {s : Int} {body : List Nat} (lb : body.length ≤ 9) {r : List Int} (h : Fit T s body r) : r ∈ rowsG T.ts.length 9 := by
  have h1 := row_le ok h.1
  have h2 := h.2.1.length_le
  exact List.mem_flatMap.mpr ⟨r.length, List.mem_range.mpr (by omega), lay_of r.length r rfl h.1⟩
theorem OpenW.len {T : Ta} (ok : T.Ok) (t4 : T.ts.length ≤ 4) {s : Int} {body : List Nat} (lb : body.length ≤ 9) {Dn Pi : List (List Int)} (o : OpenW T s body Dn Pi) : Dn.length + Pi.length ≤ 2621440 := by
  have h1 := o.nd.length_le_of_subset (l₂ := rowsG T.ts.length 9) fun r hr => fit_uni ok lb (o.fit r hr)
  have h2 := uni_rows t4 9
  rw [List.length_append] at h1
  have : (9 + 1) * 4 ^ 9 = 2621440 := by decide
  omega
theorem leads_own {T : Ta} {hd cs : List Nat} {s : Int} {Dn : List (List Int)} (hD : ∀ r, r ∈ Dn ↔ Fit T s (bodyL T hd cs) r) (ag : Agree (hd ++ cs) (cl T.g)) (na : ¬ (T.hl = false ∧ (hd ++ cs).length < T.g.length)) (q : Pl) (r : List Int) :
    r ∈ Dn.filter (leads T (placeI T hd cs) s (bodyL T hd cs) q) ↔ OwnWay T hd s cs r q := by
  rw [List.mem_filter, hD]
  unfold leads OwnWay
  rw [if_neg na, Bool.and_eq_true, decide_eq_true_eq]
  have inn : isInn T.ts q.u = true ↔ IsInner T.ts q.u := by unfold isInn; rw [decide_eq_true_eq, begL_mem]
  rw [inn]
  constructor
  · rintro ⟨⟨h1, h2, h3⟩, h4, h5⟩
    subst h4
    refine ⟨ag, rfl, h1, ?_, rfl, h3, h5⟩
    obtain ⟨w, e⟩ := h2
    show rowL T.ts r ++ (bodyL T hd cs).drop (rowL T.ts r).length = bodyL T hd cs
    rw [← e, List.drop_left]
  · rintro ⟨_, h2, h3, h4, h5, h6, h7⟩
    refine ⟨⟨h3, ⟨_, h4⟩, by rw [h5]; exact h6⟩, ?_, h7⟩
    obtain ⟨i, b, u⟩ := q
    have h2 : i = placeI T hd cs := h2
    have h5 : runG T.tab s r = b := h5
    unfold endP
    rw [h2, h5, ← h4, List.drop_left]
end K58
set_option Elab.async false
set_option linter.all false
set_option maxRecDepth 100000
set_option maxHeartbeats 2000000
namespace K58
open PySem PySem.Spec PyProof.Rows L2 Ver
def OwnAt (H0 H : Hp) (D : Addr) (T : Ta) (hd : List Nat) (s : Int) (cs : List Nat) : Prop := ∃ (kvs : List (List L2.Key × V)) (N : List Pl), H0 D = none ∧ H D = some (.dT kvs) ∧ kvs.map (·.1) = N.map plKey ∧ N.Nodup ∧ N.length ≤ 2621440 ∧
  (∀ q ∈ N, ∃ l R, valV kvs (plKey q) = some (.ref l) ∧ H0 l = none ∧ H l = some (.lst ((vecR R).map V.int)) ∧ R ≠ [] ∧ R.Nodup ∧ (∀ r, r ∈ R ↔ OwnWay T hd s cs r q) ∧ (vecR R).length ≤ 100) ∧
  ∀ q, q ∉ N → ∀ r, ¬ OwnWay T hd s cs r q
def PileAt (H : Hp) (T : Ta) (s : Int) (v : V) (r : List Int) : Prop := ∃ p, v = .ref p ∧ H p = some (.tup [.int ((rowL T.ts r).length : Nat), .int (runG T.tab s r), .int (r.length : Nat)])
theorem pile_keep {H H' : Hp} {T : Ta} {s : Int} (e : ∀ b xs, H b = some (.tup xs) → H' b = some (.tup xs)) : ∀ {vs : List V} {rs : List (List Int)}, Paired (PileAt H T s) vs rs → Paired (PileAt H' T s) vs rs
  | _, _, .nil => .nil
  | _, _, .cons ⟨p, h1, h2⟩ t => .cons ⟨p, h1, e _ _ h2⟩ (pile_keep e t)
def FoundAt (H0 H : Hp) (D Pl : Addr) (T : Ta) (i : Nat) (s : Int) (body : List Nat) (Dn : List (List Int)) : Prop := ∃ (kvs : List (List L2.Key × V)) (N : List K58.Pl), H D = some (.dT kvs) ∧ kvs.map (·.1) = N.map plKey ∧ N.Nodup ∧ N.length ≤ Dn.length ∧
  (∀ q ∈ N, Dn.filter (leads T i s body q) ≠ [] ∧ ∃ l, valV kvs (plKey q) = some (.ref l) ∧ H0 l = none ∧ l ≠ Pl ∧ H l = some (.lst ((vecR (Dn.filter (leads T i s body q))).map V.int))) ∧
  ∀ q, q ∉ N → Dn.filter (leads T i s body q) = []
theorem FoundAt.keep {H0 H H' : Hp} {D Pl : Addr} {T : Ta} {i : Nat} {s : Int} {body : List Nat} {Dn : List (List Int)} (h : FoundAt H0 H D Pl T i s body Dn) (kd : ∀ kvs, H D = some (.dT kvs) → H' D = some (.dT kvs)) (kl : ∀ b xs, b ≠ Pl → H b = some (.lst xs) → H' b = some (.lst xs)) : FoundAt H0 H' D Pl T i s body Dn := by
  obtain ⟨kvs, N, h1, h2, h3, h4, h5, h6⟩ := h
  refine ⟨kvs, N, kd _ h1, h2, h3, h4, fun q hq => ?_, h6⟩
  obtain ⟨k1, l, k2, k3, k4, k5⟩ := h5 q hq
  exact ⟨k1, l, k2, k3, k4, kl _ _ k4 k5⟩
theorem filter_snoc {α : Type} (f : α → Bool) (l : List α) (x : α) : (l ++ [x]).filter f = l.filter f ++ (if f x = true then [x] else []) := by
  rw [List.filter_append]
  congr 1
  by_cases c : f x = true
  · rw [if_pos c, List.filter_cons_of_pos c]; rfl
  · rw [if_neg c, List.filter_cons_of_neg c]; rfl
theorem FoundAt.miss {H0 H : Hp} {D Pl : Addr} {T : Ta} {i : Nat} {s : Int} {body : List Nat} {Dn : List (List Int)} {r : List Int} (h : FoundAt H0 H D Pl T i s body Dn) (m : ∀ q, leads T i s body q r = false) : FoundAt H0 H D Pl T i s body (Dn ++ [r]) := by
  obtain ⟨kvs, N, h1, h2, h3, h4, h5, h6⟩ := h
  have e : ∀ q, (Dn ++ [r]).filter (leads T i s body q) = Dn.filter (leads T i s body q) := fun q => by rw [filter_snoc, m q, if_neg (by decide), List.append_nil]
  exact ⟨kvs, N, h1, h2, h3, by rw [List.length_append]; omega, fun q hq => by rw [e]; exact h5 q hq, fun q hq => by rw [e]; exact h6 q hq⟩
theorem found_hit {H0 H H8 : Hp} {D Pl c : Addr} {T : Ta} {i : Nat} {s : Int} {body : List Nat} {Dn : List (List Int)} {r : List Int} {kvs : List (List L2.Key × V)} {N : List K58.Pl} (h1 : H D = some (.dT kvs)) (h2 : kvs.map (·.1) = N.map plKey) (h3 : N.Nodup) (h4 : N.length ≤ Dn.length)
    (h5 : ∀ q ∈ N, Dn.filter (leads T i s body q) ≠ [] ∧ ∃ l, valV kvs (plKey q) = some (.ref l) ∧ H0 l = none ∧ l ≠ Pl ∧ H l = some (.lst ((vecR (Dn.filter (leads T i s body q))).map V.int))) (h6 : ∀ q, q ∉ N → Dn.filter (leads T i s body q) = [])
    (sm : Same H H8) (c0 : H0 c = none) (cP : c ≠ Pl) (cD : c ≠ D) (hc : H8 c = some (.lst ((vecR (Dn.filter (leads T i s body (endP T i s body r)) ++ [r])).map V.int))) (ld : leads T i s body (endP T i s body r) r = true) :
    FoundAt H0 (upd H8 D (.dT (putK kvs (plKey (endP T i s body r)) (.ref c)))) D Pl T i s body (Dn ++ [r]) := by
  have other : ∀ q, q ≠ endP T i s body r → (Dn ++ [r]).filter (leads T i s body q) = Dn.filter (leads T i s body q) := fun q ne => by
    have : leads T i s body q r = false := by
      unfold leads
      rw [decide_eq_false (fun e => ne e.symm)]
      rfl
    rw [filter_snoc, this, if_neg (by decide), List.append_nil]
  have mine : (Dn ++ [r]).filter (leads T i s body (endP T i s body r)) = Dn.filter (leads T i s body (endP T i s body r)) ++ [r] := by rw [filter_snoc, if_pos ld]
  generalize endP T i s body r = q1 at hc other mine ⊢
  have oth : ∀ q, q ≠ q1 → q ∈ N → (Dn ++ [r]).filter (leads T i s body q) ≠ [] ∧ ∃ l, valV (putK kvs (plKey q1) (.ref c)) (plKey q) = some (.ref l) ∧ H0 l = none ∧ l ≠ Pl ∧ (upd H8 D (.dT (putK kvs (plKey q1) (.ref c)))) l = some (.lst ((vecR ((Dn ++ [r]).filter (leads T i s body q))).map V.int)) := fun q ne hq => by
    rw [other q ne]
    obtain ⟨k1, l, k2, k3, k4, k5⟩ := h5 q hq
    refine ⟨k1, l, by rw [valV_put, if_neg (fun e => ne (plKey_inj e))]; exact k2, k3, k4, ?_⟩
    rw [upd_ne (fun e => by rw [e, h1] at k5; cases k5)]
    exact sm _ _ k5
  have own : (Dn ++ [r]).filter (leads T i s body q1) ≠ [] ∧ ∃ l, valV (putK kvs (plKey q1) (.ref c)) (plKey q1) = some (.ref l) ∧ H0 l = none ∧ l ≠ Pl ∧ (upd H8 D (.dT (putK kvs (plKey q1) (.ref c)))) l = some (.lst ((vecR ((Dn ++ [r]).filter (leads T i s body q1))).map V.int)) := by
    rw [mine]
    exact ⟨by simp, c, by rw [valV_put, if_pos rfl], c0, cP, by rw [upd_ne cD]; exact hc⟩
  by_cases m : q1 ∈ N
  · refine ⟨_, N, upd_same, (keys_put_old ((keys_none h2).trans (decide_eq_true m))).trans h2, h3, by rw [List.length_append]; omega, fun q hq => ?_, fun q hq => ?_⟩
    · by_cases e : q = q1
      · rw [e]; exact own
      · exact oth q e hq
    · have ne : q ≠ q1 := fun e => hq (by rw [e]; exact m)
      rw [other q ne]
      exact h6 q hq
  · have nn : valV kvs (plKey q1) = none := none_of_isSome ((keys_none h2).trans (decide_eq_false m))
    refine ⟨_, N ++ [q1], upd_same, by rw [putK_new _ nn, List.map_append, List.map_append, h2]; rfl, List.nodup_append.mpr ⟨h3, List.pairwise_singleton _ _, fun x hx y hy e => m (by rw [← List.mem_singleton.mp hy, ← e]; exact hx)⟩, by rw [List.length_append, List.length_append]; exact Nat.add_le_add_right h4 1, fun q hq => ?_, fun q hq => ?_⟩
    · by_cases e : q = q1
      · rw [e]; exact own
      · exact oth q e ((List.mem_append.mp hq).resolve_right fun h => e (List.mem_singleton.mp h))
    · have ne : q ≠ q1 := fun e => hq (by rw [e]; exact List.mem_append_right _ List.mem_cons_self)
      rw [other q ne]
      exact h6 q fun h => hq (List.mem_append_left _ h)
theorem idx_hi (len : Nat) (i : Option Int) {j : Int} (h : (len : Int) ≤ j) : PySem.Builtin.Str.strSliceIndices i (some j) 1 len = PySem.Builtin.Str.strSliceIndices i (some (len : Int)) 1 len := by
  have a1 : ¬ j < 0 := by omega
  have a2 : ¬ ((len : Int) < 0) := by omega
  have e1 : min j (len : Int) = len := by omega
  have e2 : min (len : Int) (len : Int) = len := by omega
  simp [PySem.Builtin.Str.strSliceIndices, a1, a2, e1, e2]
theorem slice_mid {x : Str} {i k : Nat} (h : i ≤ x.length) : Txt.slice x (some (i : Int)) (some (((i + k : Nat)) : Int)) = (⟨(((cl x).drop i).take k).toArray⟩ : Str) := by
  by_cases c : i + k ≤ x.length
  · have := beq_iff_eq.mp (slice_closesL (x := x) (i := (i : Int)) (j := ((i + k : Nat) : Int)) (by omega) (by omega) (by omega))
    rw [this, Int.toNat_natCast, show (((i + k : Nat) : Int) - (i : Int)).toNat = k by omega]
  · have e : Txt.slice x (some (i : Int)) (some (((i + k : Nat)) : Int)) = Txt.slice x (some (i : Int)) (some (x.length : Int)) := by
      unfold Txt.slice
      rw [idx_hi x.length _ (by omega)]
    have := beq_iff_eq.mp (slice_closesL (x := x) (i := (i : Int)) (j := (x.length : Int)) (by omega) (by omega) (by omega))
    rw [e, this, Int.toNat_natCast]
    have l1 : ((cl x).drop i).length = x.length - i := by rw [List.length_drop, glen]
    rw [List.take_of_length_le (by show ((cl x).drop i).length ≤ _; omega), List.take_of_length_le (by omega)]
theorem run_lt {T : Ta} (ok : T.Ok) : ∀ {r : List Int} {s : Int}, 0 ≤ s → s < T.count → InR T r → runG T.tab s r < T.count
  | [], s, _, h, _ => h
  | t :: r, s, h0, h1, hr => by
    have ht := hr t List.mem_cons_self
    have c := cell_le ok (b := s) (t := t.toNat) h0 h1 (by omega)
    rw [show ((t.toNat : Nat) : Int) = t by omega] at c
    show (if cellG T.tab s t < 0 then -1 else runG T.tab (cellG T.tab s t) r) < T.count
    by_cases z : cellG T.tab s t < 0
    · rw [if_pos z]; omega
    · rw [if_neg z]
      exact run_lt ok (by omega) c.2 fun y hy => hr y (List.mem_cons_of_mem _ hy)
theorem via {R G : Prop} (g : R → G) (h : R) : G := g h
section
variable {P : Program} {w : World} {K : PySem.W.Frag} {mg : Str → Option Value} {base : Heap}
def sp__law_own (K : PySem.W.Frag) : Sp := fun vs H Q _ => ∃ (t a : Addr) (tv : List V) (T : Ta) (hd z : Str) (s : Int), vs = [.ref t, .ref a, .str T.g, .bl T.hl, .str hd, .int s, .str z] ∧ SqT K H t (T.ts.map V.str) ∧ SqT K H a tv ∧ Rows K H tv T.tab ∧ T.Ok ∧ T.ts.length ≤ 4 ∧ hd.length ≤ 300 ∧ z.length ≤ 9 ∧ 0 ≤ s ∧ s < T.count ∧ (T.hl = false → T.g.length ≤ hd.length ∨ (hd = "" ∧ s = 0)) ∧
  ∀ D H', Same H H' → OwnAt H H' D T (cl hd) s (cl z) → Q (.ref D) H'
theorem ok__law_own (T : Tx K mg) : FnOk P w K mg base CX0 2 T.f__law_own T.d__law_own ["tokens", "table", "begun", "healed", "ahead", "state", "text"] (sp__law_own K) := by
  refine T.F__law_own.ok sc__law_own (fun vs H Q E h => ?_) (fun cdv A outer s H vs Q E hr h => ?_)
  · obtain ⟨t, a, tv, Ta, hd, z, s0, rfl, _⟩ := h; rfl
  · obtain ⟨t, a, tv, Ta, hd, z, s0, rfl, hT, ha, hr2, ok, t4, lhd, lz, s00, s01, hh0, q⟩ := h
    refine ⟨_, (pss_cons (ps_set (i := 7) sc__law_own.nd rfl (Or.inl rfl) (pe_op op_add_str (pv 4) (pv 6)))
    (pss_cons (ps_set (i := 8) sc__law_own.nd rfl (Or.inl rfl) (pe_callB (call_min2 rfl) (by rfl) T.n_min (by decide +kernel) (pa_cons (pe_callB call_len_str (by rfl) T.n_len (by decide +kernel) (pa_cons (pv 2) pa_nil)) (pa_cons (pe_callB call_len_str (by rfl) T.n_len (by decide +kernel) (pa_cons (pv 7) pa_nil)) pa_nil))))
    (pss_cons (ps_if (pt_cmpR op_ne (pe_slice C8.sl_txt (pv 7) po_none (po_some (pv 8))) (pe_slice C8.sl_txt (pv 2) po_none (po_some (pv 8))) (nomark _)) (pss_one (ps_ret pe_dnewT)) pss_nil)
    (pss_cons (ps_if (PW.pt (pw_and (pt_not (pt_val (pv 3))) (pw_and1 (pt_cmpR op_lt (pe_callB call_len_str (by rfl) T.n_len (by decide +kernel) (pa_cons (pv 7) pa_nil)) (pe_callB call_len_str (by rfl) T.n_len (by decide +kernel) (pa_cons (pv 2) pa_nil)) (nomark _))))) (pss_one (ps_ret (Ver.pe_dispT1 (Nat.lt_of_succ_lt (hu_of hr)) (pe_tup (pa_cons (pv 8) (pa_cons pe_int (pa_cons pe_str pa_nil)))) (pe_lst (pa_cons pe_int pa_nil))))) pss_nil)
    (C8.pss_cut (ps_set (i := 9) sc__law_own.nd rfl (Or.inl rfl) (pe_ifExp (PW.pt (pw_or (pt_val (pv 3)) (pw_or1 (pt_cmpR op_ge (pe_callB call_len_str (by rfl) T.n_len (by decide +kernel) (pa_cons (pv 4) pa_nil)) (pe_callB call_len_str (by rfl) T.n_len (by decide +kernel) (pa_cons (pv 2) pa_nil)) (nomark _))))) (pv 6) (pe_slice C8.sl_txt (pv 7) (po_some (pe_callB call_len_str (by rfl) T.n_len (by decide +kernel) (pa_cons (pv 2) pa_nil))) po_none)))
    (pss_cons (ps_set (i := 10) sc__law_own.nd rfl (Or.inl rfl) (pe_lst (pa_cons pe_str pa_nil)))
    (pss_cons (ps_for PassesOwn.never rfl (pi_tup (pv 0)) (pg_name (i := 11) sc__law_own.nd rfl (Or.inl rfl))
    (pss_one (ps_for PassesOwn.never rfl (pi_range2 rfl T.n_range (pa_cons pe_int (pa_cons (pe_callB call_len_str (by rfl) T.n_len (by decide +kernel) (pa_cons (pv 11) pa_nil)) pa_nil))) (pg_name (i := 12) sc__law_own.nd rfl (Or.inl rfl))
    (pss_one (ps_expr (pe_bm PySem.F.plainAttrs_list PySem.F.slot_list_append PySem.F.type_list_append mt_append (pv 10) (pa_cons (pe_slice C8.sl_txt (pv 11) po_none (po_some (pv 12))) pa_nil)))))))
    (pss_cons (ps_set (i := 13) sc__law_own.nd rfl (Or.inl rfl) pe_dnewT)
    (pss_cons (ps_set (i := 14) sc__law_own.nd rfl (Or.inl rfl) (pe_lst (pa_cons (pe_tup (pa_cons pe_int (pa_cons (pv 5) (pa_cons pe_int pa_nil)))) pa_nil)))
    (pss_cons (ps_while PassesOwn.never (pt_truth (pv 14) (fun _ => rfl))
    (pss_cons (ps_asg (pe_bm0 PySem.F.plainAttrs_list PySem.F.slot_list_pop PySem.F.type_list_pop mt_pop (pv 14)) (pg_tup (by rfl) (pgs_cons (pg_name (i := 15) sc__law_own.nd rfl (Or.inl rfl)) (pgs_cons (pg_name (i := 16) sc__law_own.nd rfl (Or.inl rfl)) (pgs_cons (pg_name (i := 17) sc__law_own.nd rfl (Or.inl rfl)) pgs_nil)))))
    (C8.pss_cut (ps_if (pt_cmpR op_in_seq (pe_slice C8.sl_txt (pv 9) (po_some (pv 15)) po_none) (pv 10) (by rfl)) (pss_cons (ps_set (i := 18) sc__law_own.nd rfl (Or.inl rfl) (pe_tup (pa_cons (pv 8) (pa_cons (pv 16) (pa_cons (pe_slice C8.sl_txt (pv 9) (po_some (pv 15)) po_none) pa_nil)))))
    (pss_one (ps_dput (hu_of hr) (pv 13) (pv 18) (pe_call (ok__law_sum T) hr rfl T.g__law_sum T.F__law_sum.kp T.b__law_sum .nil pass0 (pa_cons (pe_dget2 (hu_of hr) (pv 13) (pv 18) (pe_lst pa_nil) ⟨rfl, rfl, rfl, rfl⟩) (pa_cons (pe_op op_cat (pe_op op_rep (pe_lst (pa_cons pe_int pa_nil)) (pv 17)) (pe_lst (pa_cons pe_int pa_nil))) pa_nil))) rfl))) pss_nil)
    (pss_one (ps_for PassesOwn.never rfl (pi_range1 rfl T.n_range (pa_cons (pe_callB call_len_seq (by rfl) T.n_len (by decide +kernel) (pa_cons (pv 0) pa_nil)) pa_nil)) (pg_name (i := 11) sc__law_own.nd rfl (Or.inl rfl))
    (pss_cons (ps_set (i := 19) sc__law_own.nd rfl (Or.inl rfl) (pe_op op_add (pv 15) (pe_callB call_len_str (by rfl) T.n_len (by decide +kernel) (pa_cons (pe_ix ix_tup (pv 0) (pv 11) (fun _ _ => rfl)) pa_nil))))
    (pss_one (ps_if (PW.pt (pw_and (pt_cmpR op_eq (pe_slice C8.sl_txt (pv 9) (po_some (pv 15)) (po_some (pv 19))) (pe_ix ix_tup (pv 0) (pv 11) (fun _ _ => rfl)) (nomark _)) (pw_and1 (pt_cmpR op_ge (pe_ix ix_tup (pe_ix ix_tup (pv 1) (pv 16) (fun _ _ => rfl)) (pv 11) (fun _ _ => rfl)) pe_int (nomark _))))) (pss_one (ps_expr (pe_bm PySem.F.plainAttrs_list PySem.F.slot_list_append PySem.F.type_list_append mt_append (pv 14) (pa_cons (pe_tup (pa_cons (pv 19) (pa_cons (pe_ix ix_tup (pe_ix ix_tup (pv 1) (pv 16) (fun _ _ => rfl)) (pv 11) (fun _ _ => rfl)) (pa_cons (pe_op op_add (pv 17) pe_int) pa_nil)))) pa_nil)))) pss_nil))))))))
    (pss_one (ps_ret (pv 13))))))))))))), ?_⟩
    have lw : (hd ++ z).length = hd.length + z.length := Str.length_append _ _
    have lg := ok.gl
    refine ⟨.str hd, rfl, .str z, rfl, hd, z, rfl, rfl, small' (by omega), ?_⟩
    generalize ew : hd ++ z = wh at lw ⊢
    refine ⟨.str Ta.g, rfl, Ta.g, rfl, small' (by omega), .str wh, rfl, wh, rfl, small' (by omega), _, _, rfl, ?_⟩
    have em : (if ((wh.length : Nat) : Int) < ((Ta.g.length : Nat) : Int) then ((wh.length : Nat) : Int) else ((Ta.g.length : Nat) : Int)) = ((placeI Ta (cl hd) (cl z) : Nat) : Int) := by
      unfold placeI
      rw [← cl_app, ew, glen]
      split <;> omega
    rw [em]
    have e9 : placeI Ta (cl hd) (cl z) = min (cl Ta.g).length (cl wh).length := by unfold placeI; rw [← cl_app, ew, glen, glen]
    generalize ei : placeI Ta (cl hd) (cl z) = i at em e9
    refine ⟨.str wh, rfl, .int (i : Nat), rfl, (i : Nat), rfl, wh, rfl, small' (by omega), .str Ta.g, rfl, .int (i : Nat), rfl, (i : Nat), rfl, Ta.g, rfl, small' (by omega), rfl, _, rfl, ?_⟩
    rw [slice_takeS, slice_takeS]
    by_cases ag : takeS wh i = takeS Ta.g i
    · -- alike as far as both go
      rw [ag]
      rw [show (!decide (V.str (takeS Ta.g i) = V.str (takeS Ta.g i))) = false by simp]
      refine if_ff ?_
      have agr : Agree (cl wh) (cl Ta.g) := (agree_take e9).mpr (congrArg cl ag)
      have lcw : (cl hd ++ cl z).length = wh.length := by rw [← cl_app, ew, glen]
      by_cases na : Ta.hl = false ∧ wh.length < Ta.g.length
      · refine ⟨.bl Ta.hl, rfl, false, by rw [na.1], ?_⟩
        refine if_tt ⟨.str wh, rfl, wh, rfl, small' (by omega), .str Ta.g, rfl, Ta.g, rfl, small' (by omega), _, _, rfl, rfl, _, rfl, ?_⟩
        rw [decide_eq_true (show ((wh.length : Nat) : Int) < ((Ta.g.length : Nat) : Int) by have := na.2; omega)]
        refine if_tt fun D nD => ?_
        have sD := same_new (o := .dT []) nD
        have hD : (upd H D (.dT [])) D = some (.dT []) := upd_same
        generalize upd H D (.dT []) = H1 at sD hD ⊢
        refine ⟨.int (i : Nat), rfl, small' (by simp), fun p np => ?_⟩
        have sp := same_new (o := .tup [V.int (i : Nat), V.int 0, V.str ""]) np
        have hp : (upd H1 p (.tup [V.int (i : Nat), V.int 0, V.str ""])) p = some (.tup (plV ⟨i, 0, ""⟩)) := upd_same
        generalize upd H1 p (.tup [V.int (i : Nat), V.int 0, V.str ""]) = H2 at sp hp ⊢
        refine ⟨small' (by simp), fun l nl => ?_⟩
        have sl := same_new (o := .lst [V.int 1]) nl
        have hl : (upd H2 l (.lst [V.int 1])) l = some (.lst [V.int 1]) := upd_same
        have nlH : H l = none := (sD.trans sp).free nl
        have lD : l ≠ D := fun e => by rw [e, sp _ _ hD] at nl; cases nl
        generalize upd H2 l (.lst [V.int 1]) = H3 at sl hl ⊢
        refine ⟨[], plKey ⟨i, 0, ""⟩, p, rfl, sl _ _ hp, sl _ _ (sp _ _ hD), (by show 0 < sizeLine; decide), ?_⟩
        refine q D _ (same_upd2 ((sD.trans sp).trans sl) nD) ⟨[(plKey ⟨i, 0, ""⟩, .ref l)], [⟨i, 0, ""⟩], nD, upd_same, rfl, List.pairwise_singleton _ _, (by show 1 ≤ 2621440; decide), fun q hq => ?_, fun q hq r ho => hq ?_⟩
        · rw [List.mem_singleton.mp hq]
          refine ⟨l, [[]], valV_pos rfl, nlH, by rw [upd_ne lD]; exact hl, by simp, List.pairwise_singleton _ _, fun r => ?_, by decide⟩
          unfold OwnWay
          rw [lcw, if_pos na, ← cl_app, ew]
          constructor
          · intro h
            exact ⟨agr, ei.symm, List.mem_singleton.mp h, rfl, rfl⟩
          · rintro ⟨_, _, h, _⟩
            rw [h]; exact List.mem_singleton.mpr rfl
        · unfold OwnWay at ho
          rw [lcw, if_pos na] at ho
          obtain ⟨_, h1, _, h2, h3⟩ := ho
          obtain ⟨qi, qb, qu⟩ := q
          have h1 : qi = _ := h1
          have h2 : qb = 0 := h2
          have h3 : qu = "" := h3
          rw [h1, h2, h3, ei]
          exact List.mem_singleton.mpr rfl
      · apply via
        · intro h
          rcases Bool.eq_false_or_eq_true Ta.hl with e | e
          · refine ⟨.bl Ta.hl, rfl, true, by rw [e], ?_⟩
            exact if_ff (if_ff h)
          · refine ⟨.bl Ta.hl, rfl, false, by rw [e], ?_⟩
            refine if_tt ⟨.str wh, rfl, wh, rfl, small' (by omega), .str Ta.g, rfl, Ta.g, rfl, small' (by omega), _, _, rfl, rfl, _, rfl, ?_⟩
            rw [decide_eq_false (show ¬ ((wh.length : Nat) : Int) < ((Ta.g.length : Nat) : Int) from fun h => na ⟨e, by omega⟩)]
            exact if_ff h
        · have na2 : ¬ (Ta.hl = false ∧ (cl hd ++ cl z).length < Ta.g.length) := by rw [lcw]; exact na
          refine ⟨fun σ' H' => ∃ bd : Str, H' = H ∧ cl bd = bodyL Ta (cl hd) (cl z) ∧ bd.length ≤ 9 ∧ σ' = [some (.ref t), some (.ref a), some (.str Ta.g), some (.bl Ta.hl), some (.str hd), some (.int s0), some (.str z), some (.str wh), some (.int (i : Nat)), some (.str bd), none, none, none, none, none, none, none, none, none, none], ?_, fun σ' H' h => ?_⟩
          · have fin : (Ta.hl = true ∨ Ta.g.length ≤ hd.length) → cl z = bodyL Ta (cl hd) (cl z) := fun c => by unfold bodyL; rw [if_pos (by rw [glen]; exact c)]
            rcases Bool.eq_false_or_eq_true Ta.hl with e | e
            · refine ⟨.bl Ta.hl, rfl, true, by rw [e], ?_⟩
              exact if_tt (if_tt ⟨.str z, rfl, z, rfl, fin (.inl e), lz, rfl⟩)
            · refine ⟨.bl Ta.hl, rfl, false, by rw [e], ?_⟩
              refine if_ff ⟨.str hd, rfl, hd, rfl, small' (by omega), .str Ta.g, rfl, Ta.g, rfl, small' (by omega), _, _, rfl, rfl, _, rfl, ?_⟩
              by_cases c : Ta.g.length ≤ hd.length
              · rw [decide_eq_true (show ((Ta.g.length : Nat) : Int) ≤ ((hd.length : Nat) : Int) by omega)]
                exact if_tt ⟨.str z, rfl, z, rfl, fin (.inr c), lz, rfl⟩
              · rw [decide_eq_false (show ¬ ((Ta.g.length : Nat) : Int) ≤ ((hd.length : Nat) : Int) by omega)]
                refine if_ff ⟨.str wh, rfl, .str Ta.g, rfl, Ta.g, rfl, small' (by omega), (Ta.g.length : Nat), rfl, wh, rfl, small' (by omega), Txt.slice wh (some ((Ta.g.length : Nat) : Int)) none, rfl, ?_, ?_, rfl⟩
                · have := SX.slice_from (a := cl wh) (i := ((Ta.g.length : Nat) : Int)) (by omega)
                  rw [SX.S_tl] at this
                  rw [this]
                  unfold bodyL
                  rw [if_neg (by rw [glen]; exact fun x => x.elim (fun y => by rw [e] at y; cases y) c), ← cl_app, ew, Int.toNat_natCast]
                · have := (drop_facts wh ((Ta.g.length : Nat) : Int) (by omega)).1
                  rw [this]
                  omega
          · obtain ⟨bd, rfl, ebd, lbd, rfl⟩ := h
            refine ⟨small' (by simp), fun IL nIL => ?_⟩
            have sI := same_new (o := .lst [V.str ""]) nIL
            have hI : (upd H' IL (.lst [V.str ""])) IL = some (.lst ([("" : Str)].map V.str)) := upd_same
            generalize upd H' IL (.lst [V.str ""]) = H1 at sI hI ⊢
            refine ⟨.ref t, rfl, t, rfl, ⟨_, seqT_grow sI hT⟩, ?_⟩
            refine for_tup (K := K) (a := t) (xs := Ta.ts.map V.str) (fun m σ H2 => ∃ (zs : List Str) (y11 y12 : Option V), σ = [some (.ref t), some (.ref a), some (.str Ta.g), some (.bl Ta.hl), some (.str hd), some (.int s0), some (.str z), some (.str wh), some (.int (i : Nat)), some (.str bd), some (.ref IL), y11, y12, none, none, none, none, none, none, none] ∧ Same H' H2 ∧ H2 IL = some (.lst (zs.map V.str)) ∧ zs.length ≤ 1 + 12 * m ∧ ∀ y, y ∈ zs ↔ y = "" ∨ ∃ tk ∈ Ta.ts.take m, ∃ k, 1 ≤ k ∧ k < tk.length ∧ y = takeS tk k)
              ⟨[""], none, none, rfl, sI, hI, by simp, fun y => by simp⟩ (fun m σ H2 _ h => ?_) (fun m x σ H2 ex h => ?_) (fun σ H2 h => ?_)
            · obtain ⟨_, _, _, _, s2, _⟩ := h
              exact seqT_grow s2 hT
            · obtain ⟨zs, y11, y12, rfl, s2, hI2, lzs, mem⟩ := h
              obtain ⟨tk, etk, rfl⟩ : ∃ tk, Ta.ts[m]? = some tk ∧ V.str tk = x := by
                rw [List.getElem?_map] at ex
                cases e : Ta.ts[m]? with
                | none => rw [e] at ex; cases ex
                | some tk => rw [e] at ex; exact ⟨tk, rfl, Option.some.inj ex⟩
              obtain ⟨k1, k12⟩ := ok.len _ (List.mem_of_getElem? etk)
              refine ⟨.str tk, rfl, tk, rfl, small' (by omega), 1, (tk.length : Nat), rfl, ⟨by omega, by omega, by omega, by omega⟩, ?_⟩
              refine for_range (lo := 1) (n := (((tk.length : Nat) : Int) - 1).toNat) (fun j σ H3 => ∃ (zs : List Str) (y12 : Option V), σ = [some (.ref t), some (.ref a), some (.str Ta.g), some (.bl Ta.hl), some (.str hd), some (.int s0), some (.str z), some (.str wh), some (.int (i : Nat)), some (.str bd), some (.ref IL), some (.str tk), y12, none, none, none, none, none, none, none] ∧ Same H' H3 ∧ H3 IL = some (.lst (zs.map V.str)) ∧ zs.length ≤ 1 + 12 * m + j ∧ ∀ y, y ∈ zs ↔ (y = "" ∨ ∃ tk ∈ Ta.ts.take m, ∃ k, 1 ≤ k ∧ k < tk.length ∧ y = takeS tk k) ∨ ∃ k, 1 ≤ k ∧ k < 1 + j ∧ y = takeS tk k)
                ⟨zs, y12, rfl, s2, hI2, by omega, fun y => by rw [mem]; exact ⟨.inl, fun h => h.resolve_right fun ⟨k, h1, h2, _⟩ => by omega⟩⟩ (fun j σ H3 lt h => ?_) (fun σ H3 h => ?_)
              · obtain ⟨zs, y12, rfl, s3, hI3, lzs, mem⟩ := h
                have e1 : (1 : Int) + (j : Int) = ((1 + j : Nat) : Int) := by omega
                have mlt := (List.getElem?_eq_some_iff.mp etk).1
                rw [e1]
                refine ⟨.ref IL, rfl, .inl ⟨rfl, _, .inl (.inl hI3)⟩, .str tk, rfl, .int ((1 + j : Nat) : Int), rfl, ((1 + j : Nat) : Int), rfl, tk, rfl, small' (by omega), ?_⟩
                rw [slice_takeS]
                refine ⟨IL, _, _, rfl, rfl, hI3, small (by rw [List.length_map]; omega), zs ++ [takeS tk (1 + j)], _, rfl, same_upd2 s3 nIL, by rw [upd_same, List.map_append]; rfl, by rw [List.length_append, List.length_singleton]; omega, fun y => ?_⟩
                rw [List.mem_append, mem, List.mem_singleton]
                constructor
                · rintro ((h | ⟨k, h1, h2, h3⟩) | h)
                  · exact .inl h
                  · exact .inr ⟨k, h1, by omega, h3⟩
                  · exact .inr ⟨1 + j, by omega, by omega, h⟩
                · rintro (h | ⟨k, h1, h2, h3⟩)
                  · exact .inl (.inl h)
                  · by_cases ek : k = 1 + j
                    · exact .inr (by rw [h3, ek])
                    · exact .inl (.inr ⟨k, h1, by omega, h3⟩)
              · obtain ⟨zs, y12, rfl, s3, hI3, lzs, mem⟩ := h
                refine ⟨zs, _, _, rfl, s3, hI3, by omega, fun y => ?_⟩
                rw [mem, take_snoc etk]
                constructor
                · rintro ((h | ⟨u, hu, h⟩) | ⟨k, h1, h2, h3⟩)
                  · exact .inl h
                  · exact .inr ⟨u, List.mem_append_left _ hu, h⟩
                  · exact .inr ⟨tk, List.mem_append_right _ List.mem_cons_self, k, h1, by omega, h3⟩
                · rintro (h | ⟨u, hu, k, h1, h2, h3⟩)
                  · exact .inl (.inl h)
                  · rcases List.mem_append.mp hu with hu | hu
                    · exact .inl (.inr ⟨u, hu, k, h1, h2, h3⟩)
                    · rw [List.mem_singleton.mp hu] at h2 h3
                      exact .inr ⟨k, h1, by omega, h3⟩
            · obtain ⟨zs, y11, y12, rfl, s2, hI2, lzs, mem⟩ := h
              rw [List.length_map, List.take_length] at mem
              rw [List.length_map] at lzs
              have mem : ∀ y, y ∈ zs ↔ IsInner Ta.ts y := fun y => by
                rw [mem]
                constructor
                · rintro (h | ⟨u, hu, k, h1, h2, h3⟩)
                  · rw [h]; exact inner_nil ok
                  · exact ⟨u, hu, k, h2, h3⟩
                · rintro ⟨u, hu, k, h2, h3⟩
                  by_cases k0 : k = 0
                  · subst k0
                    exact .inl (by rw [h3]; rfl)
                  · exact .inr ⟨u, hu, k, by omega, h2, h3⟩
              refine fun D nD => ?_
              have sD := same_new (o := .dT []) nD
              have hD : (upd H2 D (.dT [])) D = some (.dT []) := upd_same
              have hI3 := sD _ _ hI2
              have s3 := s2.trans sD
              have nDH : H' D = none := s2.free nD
              generalize upd H2 D (.dT []) = H3 at sD hD hI3 s3 ⊢
              refine ⟨.int s0, rfl, small' (by simp), fun p np => ?_⟩
              have sp := same_new (o := .tup [V.int 0, V.int s0, V.int 0]) np
              have hp : (upd H3 p (.tup [V.int 0, V.int s0, V.int 0])) p = some (.tup [V.int 0, V.int s0, V.int 0]) := upd_same
              generalize upd H3 p (.tup [V.int 0, V.int s0, V.int 0]) = H4 at sp hp ⊢
              refine ⟨small' (by simp), fun Pl nPl => ?_⟩
              have sPl := same_new (o := .lst [V.ref p]) nPl
              have hPl : (upd H4 Pl (.lst [V.ref p])) Pl = some (.lst [V.ref p]) := upd_same
              have s5 := (s3.trans sp).trans sPl
              have nPlH : H' Pl = none := (s3.trans sp).free nPl
              have hI5 := sPl _ _ (sp _ _ hI3)
              have hD5 := sPl _ _ (sp _ _ hD)
              have hp5 := sPl _ _ hp
              have PlI : Pl ≠ IL := fun e => by rw [e, sp _ _ hI3] at nPl; cases nPl
              have PlD : Pl ≠ D := fun e => by rw [e, sp _ _ hD] at nPl; cases nPl
              have ID : IL ≠ D := fun e => by rw [e, nD] at hI2; cases hI2
              generalize upd H4 Pl (.lst [V.ref p]) = H5 at sPl hPl s5 hI5 hD5 hp5 ⊢
              have lbd' : (cl bd).length ≤ 9 := by rw [glen]; exact lbd
              refine ⟨fun m σ H6 => ∃ (Dn Pi : List (List Int)) (pv : List V) (y11 y15 y16 y17 y18 y19 : Option V), σ = [some (.ref t), some (.ref a), some (.str Ta.g), some (.bl Ta.hl), some (.str hd), some (.int s0), some (.str z), some (.str wh), some (.int (i : Nat)), some (.str bd), some (.ref IL), y11, y12, some (.ref D), some (.ref Pl), y15, y16, y17, y18, y19] ∧ Same H' H6 ∧ H6 IL = some (.lst (zs.map V.str)) ∧ H6 Pl = some (.lst pv) ∧ Paired (PileAt H6 Ta s0) pv Pi ∧ OpenW Ta s0 (cl bd) Dn Pi ∧ FoundAt H' H6 D Pl Ta i s0 (cl bd) Dn ∧ m = 2621440 - Dn.length,
                ⟨_, [], [[]], _, y11, none, none, none, none, none, rfl, s5, hI5, hPl, .cons ⟨p, rfl, hp5⟩ .nil, open_start s00, ⟨[], [], hD5, rfl, List.nodup_nil, by decide, fun q h => (by cases h), fun q _ => rfl⟩, rfl⟩, fun m σ H6 h => ?_⟩
              obtain ⟨Dn, Pi, pv, y11, y15, y16, y17, y18, y19, rfl, s6, hI6, hPl6, hP, ow, fa, rfl⟩ := h
              by_cases pe : Pi = []
              · subst pe
                have pv0 : pv = [] := List.eq_nil_of_length_eq_zero (Paired.length hP)
                subst pv0
                refine ⟨.ref Pl, rfl, false, .inl ⟨_, .inl (.inl hPl6), rfl⟩, ?_⟩
                refine if_ff ?_
                obtain ⟨ndD, allD⟩ := open_all s00 ow
                refine ⟨.ref D, rfl, q D H6 s6 ?_⟩
                obtain ⟨kvs, N, f1, f2, f3, f4, f5, f6⟩ := fa
                have lD := OpenW.len ok t4 lbd' ow
                have key : ∀ (q : K58.Pl) (r : List Int), r ∈ Dn.filter (leads Ta i s0 (cl bd) q) ↔ OwnWay Ta (cl hd) s0 (cl z) r q := fun q r => by
                  have := leads_own (T := Ta) (hd := cl hd) (cs := cl z) (s := s0) (Dn := Dn) (by rw [← ebd]; exact allD) (by rw [← cl_app, ew]; exact agr) na2 q r
                  rw [ei, ← ebd] at this
                  exact this
                refine ⟨kvs, N, nDH, f1, f2, f3, by omega, fun q hq => ?_, fun q hq r ho => ?_⟩
                · obtain ⟨g1, l, g2, g3, g4, g5⟩ := f5 q hq
                  refine ⟨l, _, g2, g3, g5, g1, ndD.filter _, key q, ?_⟩
                  rw [vec_len]
                  refine top_le.mpr fun r hr => ?_
                  have hf := (allD r).mp (List.mem_filter.mp hr).1
                  have h1 := row_le ok hf.1
                  have h2 := hf.2.1.length_le
                  omega
                · have := (key q r).mpr ho
                  rw [f6 q hq] at this
                  cases this
              · obtain ⟨Pi1, r, rfl⟩ := snoc_split pe
                obtain ⟨pv1, v, rfl, hP1, hv⟩ := paired_snoc_inv hP
                obtain ⟨pa, rfl, hpa⟩ := hv
                refine ⟨.ref Pl, rfl, true, .inl ⟨_, .inl (.inl hPl6), by simp⟩, ?_⟩
                refine if_tt ?_
                have lDn := OpenW.len ok t4 lbd' ow
                have ow2 := open_step ow
                obtain ⟨Dn0, eDn0⟩ : ∃ n, n = Dn.length := ⟨_, rfl⟩
                have lDn2 := OpenW.len ok t4 lbd' ow2
                have hf : Fit Ta s0 (cl bd) r := ow.fit r (by simp)
                refine ⟨fun σ' H7 => ∃ (Dn Pi : List (List Int)) (pv : List V) (y11 y15 y16 y17 y18 y19 : Option V), σ' = [some (.ref t), some (.ref a), some (.str Ta.g), some (.bl Ta.hl), some (.str hd), some (.int s0), some (.str z), some (.str wh), some (.int (i : Nat)), some (.str bd), some (.ref IL), y11, y12, some (.ref D), some (.ref Pl), y15, y16, y17, y18, y19] ∧ Same H' H7 ∧ H7 IL = some (.lst (zs.map V.str)) ∧ H7 Pl = some (.lst pv) ∧ Paired (PileAt H7 Ta s0) pv Pi ∧ OpenW Ta s0 (cl bd) Dn Pi ∧ FoundAt H' H7 D Pl Ta i s0 (cl bd) Dn ∧ Dn.length = Dn0 + 1, fun σ' H7 ⟨Dn2, Pi2, pv2, y11, y15, y16, y17, y18, y19, e, a1, a2, a3, a4, a5, a6, a7⟩ => ⟨2621440 - Dn2.length, (by rw [a7]; rw [List.length_append] at lDn; simp only [List.length_singleton] at lDn; omega), Dn2, Pi2, pv2, y11, y15, y16, y17, y18, y19, e, a1, a2, a3, a4, a5, a6, rfl⟩, ?_⟩
                refine ⟨.ref Pl, rfl, .inl ⟨rfl, _, .inl (.inl hPl6)⟩, Pl, _, .ref pa, rfl, rfl, hPl6, by rw [List.length_append, List.length_singleton, Nat.add_sub_cancel, List.getElem?_append_right (Nat.le_refl _), Nat.sub_self]; rfl, ?_⟩
                rw [List.dropLast_concat]
                have sP : Same H' (upd H6 Pl (.lst pv1)) := same_upd2 s6 nPlH
                have hPl7 : (upd H6 Pl (.lst pv1)) Pl = some (.lst pv1) := upd_same
                have hI7 : (upd H6 Pl (.lst pv1)) IL = some (.lst (zs.map V.str)) := by rw [upd_ne (Ne.symm PlI)]; exact hI6
                have kt7 : ∀ b xs, H6 b = some (.tup xs) → (upd H6 Pl (.lst pv1)) b = some (.tup xs) := fun b xs e => tup_upd hPl6 e
                have fa7 : FoundAt H' (upd H6 Pl (.lst pv1)) D Pl Ta i s0 (cl bd) Dn := fa.keep (fun kvs e => by rw [upd_ne (Ne.symm PlD)]; exact e) (fun b xs nb e => by rw [upd_ne nb]; exact e)
                generalize upd H6 Pl (.lst pv1) = H7 at sP hPl7 hI7 kt7 fa7 ⊢
                have hP7 := pile_keep kt7 hP1
                have hpa7 := kt7 _ _ hpa
                refine ⟨pa, _, rfl, .inl (.inl hpa7), rfl, .int ((rowL Ta.ts r).length : Nat), _, rfl, .int (runG Ta.tab s0 r), _, rfl, .int (r.length : Nat), _, rfl, rfl, ?_⟩
                have lr := row_le ok hf.1
                have lrl := hf.2.1.length_le
                refine ⟨fun σ' H8 => ∃ (y18 : Option V), σ' = [some (.ref t), some (.ref a), some (.str Ta.g), some (.bl Ta.hl), some (.str hd), some (.int s0), some (.str z), some (.str wh), some (.int (i : Nat)), some (.str bd), some (.ref IL), y11, y12, some (.ref D), some (.ref Pl), some (.int ((rowL Ta.ts r).length : Nat)), some (.int (runG Ta.tab s0 r)), some (.int (r.length : Nat)), y18, y19] ∧ Same H' H8 ∧ H8 IL = some (.lst (zs.map V.str)) ∧ H8 Pl = some (.lst pv1) ∧ Paired (PileAt H8 Ta s0) pv1 Pi1 ∧ FoundAt H' H8 D Pl Ta i s0 (cl bd) (Dn ++ [r]), ?_, fun σ' H8 h => ?_⟩
                · have eb : Txt.slice bd (some (((rowL Ta.ts r).length : Nat) : Int)) none = (⟨((cl bd).drop (rowL Ta.ts r).length).toArray⟩ : Str) := by
                    have := SX.slice_from (a := cl bd) (i := (((rowL Ta.ts r).length : Nat) : Int)) (by omega)
                    rw [SX.S_tl, Int.toNat_natCast] at this
                    exact this
                  refine ⟨.str bd, rfl, .int ((rowL Ta.ts r).length : Nat), rfl, ((rowL Ta.ts r).length : Nat), rfl, bd, rfl, small' (by omega), .ref IL, rfl, ?_⟩
                  rw [eb]
                  generalize hrest : (⟨((cl bd).drop (rowL Ta.ts r).length).toArray⟩ : Str) = rest
                  have eq1 : endP Ta i s0 (cl bd) r = ⟨i, runG Ta.tab s0 r, rest⟩ := by unfold endP; rw [hrest]
                  refine ⟨IL, _, rfl, .inl (.inl (.inl hI7)), rfl, by rw [List.all_map]; exact List.all_eq_true.mpr fun _ _ => rfl, decide (rest ∈ zs), (by show V.bl (inV _ _) = V.bl _; rw [inV_strs]), ?_⟩
                  by_cases c : rest ∈ zs
                  · rw [decide_eq_true c]
                    refine if_tt ?_
                    have ld : leads Ta i s0 (cl bd) (endP Ta i s0 (cl bd) r) r = true := by
                      unfold leads
                      rw [decide_eq_true rfl, Bool.true_and, eq1]
                      unfold isInn
                      exact decide_eq_true (begL_mem.mpr ((mem rest).mp c))
                    refine ⟨.int (i : Nat), rfl, .int (runG Ta.tab s0 r), rfl, .str bd, rfl, .int ((rowL Ta.ts r).length : Nat), rfl, ((rowL Ta.ts r).length : Nat), rfl, bd, rfl, small' (by omega), ?_⟩
                    rw [eb, hrest]
                    refine ⟨small' (by simp), fun pq npq => ?_⟩
                    have sq := same_new (o := .tup [V.int (i : Nat), V.int (runG Ta.tab s0 r), V.str rest]) npq
                    have hq : (upd H7 pq (.tup [V.int (i : Nat), V.int (runG Ta.tab s0 r), V.str rest])) pq = some (.tup (plV (endP Ta i s0 (cl bd) r))) := by rw [upd_same, eq1]; rfl
                    generalize upd H7 pq (.tup [V.int (i : Nat), V.int (runG Ta.tab s0 r), V.str rest]) = H8 at sq hq ⊢
                    obtain ⟨kvs, N, f1, f2, f3, f4, f5, f6⟩ := fa7
                    have f18 := sq _ _ f1
                    refine ⟨.ref D, rfl, D, rfl, .inr ⟨_, .inl f18⟩, .ref pq, rfl, Nat.zero_le _, fun E0 nE0 => ?_⟩
                    have sE := same_new (o := .lst []) nE0
                    have hE : (upd H8 E0 (.lst [])) E0 = some (.lst []) := upd_same
                    have f19 := sE _ _ f18
                    have hq9 := sE _ _ hq
                    have g := DGet.t (k := plKey (endP Ta i s0 (cl bd) r)) f19 hq9
                    obtain ⟨Lx, hLx, eLx⟩ : ∃ Lx, (upd H8 E0 (.lst [])) Lx = some (.lst ((vecR (Dn.filter (leads Ta i s0 (cl bd) (endP Ta i s0 (cl bd) r)))).map V.int)) ∧ (valV kvs (plKey (endP Ta i s0 (cl bd) r))).getD (.ref E0) = .ref Lx := by
                      by_cases m : endP Ta i s0 (cl bd) r ∈ N
                      · obtain ⟨_, l, k2, _, _, k5⟩ := f5 _ m
                        exact ⟨l, sE _ _ (sq _ _ k5), by rw [k2]; rfl⟩
                      · have nn : valV kvs (plKey (endP Ta i s0 (cl bd) r)) = none := none_of_isSome ((keys_none f2).trans (decide_eq_false m))
                        exact ⟨E0, by rw [f6 _ m]; exact hE, by rw [nn]; rfl⟩
                    have s79 := sq.trans sE
                    generalize upd H8 E0 (.lst []) = H9 at sE hE f19 hq9 g hLx s79 ⊢
                    refine ⟨_, g, ?_⟩
                    rw [eLx]
                    refine ⟨small' (by simp), fun z0 nz0 => ?_⟩
                    have sz0 := same_new (o := .lst [V.int 0]) nz0
                    have hz0 : (upd H9 z0 (.lst [V.int 0])) z0 = some (.lst [V.int 0]) := upd_same
                    generalize upd H9 z0 (.lst [V.int 0]) = H10 at sz0 hz0 ⊢
                    have r9 : r.length ≤ 9 := by omega
                    refine ⟨.int (r.length : Nat), rfl, z0, (r.length : Nat), [V.int 0], rfl, rfl, hz0, by omega, by omega, by rw [Int.toNat_natCast, List.length_singleton]; exact Nat.le_of_lt (big (by omega)), fun z1 nz1 => ?_⟩
                    rw [Int.toNat_natCast, rep_one]
                    have sz1 := same_new (o := .lst (List.replicate r.length (V.int 0))) nz1
                    have hz1 : (upd H10 z1 (.lst (List.replicate r.length (V.int 0)))) z1 = some (.lst (List.replicate r.length (V.int 0))) := upd_same
                    generalize upd H10 z1 (.lst (List.replicate r.length (V.int 0))) = H11 at sz1 hz1 ⊢
                    refine ⟨small' (by simp), fun z2 nz2 => ?_⟩
                    have sz2 := same_new (o := .lst [V.int 1]) nz2
                    have hz2 : (upd H11 z2 (.lst [V.int 1])) z2 = some (.lst [V.int 1]) := upd_same
                    have hz1' := sz2 _ _ hz1
                    generalize upd H11 z2 (.lst [V.int 1]) = H12 at sz2 hz2 hz1' ⊢
                    refine ⟨z1, z2, _, _, rfl, rfl, hz1', hz2, Nat.le_of_lt (big (by rw [List.length_replicate, List.length_singleton]; omega)), fun z3 nz3 => ?_⟩
                    have ev : List.replicate r.length (V.int 0) ++ [V.int 1] = (vecR [r]).map V.int := by rw [← vec_one, List.map_append, List.map_replicate]; rfl
                    rw [ev]
                    have sz3 := same_new (o := .lst ((vecR [r]).map V.int)) nz3
                    have hz3 : (upd H12 z3 (.lst ((vecR [r]).map V.int))) z3 = some (.lst ((vecR [r]).map V.int)) := upd_same
                    generalize upd H12 z3 (.lst ((vecR [r]).map V.int)) = H13 at sz3 hz3 ⊢
                    have s913 := ((sz0.trans sz1).trans sz2).trans sz3
                    have s713 := s79.trans s913
                    have tl : ∀ R : List (List Int), (∀ x ∈ R, x.length ≤ 9) → (vecR R).length ≤ 100 := fun R hR => by
                      rw [vec_len]
                      refine top_le.mpr fun x hx => ?_
                      have := hR x hx
                      omega
                    have fit9 : ∀ x ∈ Dn, x.length ≤ 9 := fun x hx => by
                      have hf := ow.fit x (List.mem_append_left _ hx)
                      have h1 := row_le ok hf.1
                      have h2 := hf.2.1.length_le
                      omega
                    refine ⟨Lx, z3, _, _, rfl, s913 _ _ hLx, hz3, tl _ fun x hx => fit9 x (List.mem_filter.mp hx).1, tl _ fun x hx => by rw [List.mem_singleton.mp hx]; exact r9, fun cA H14 s14 nc hc => ?_⟩
                    rw [vec_sum] at hc
                    have f114 := s14 _ _ (s913 _ _ f19)
                    have hq14 := s14 _ _ (s913 _ _ hq9)
                    have lkv : kvs.length = N.length := by have := congrArg List.length f2; rw [List.length_map, List.length_map] at this; exact this
                    refine ⟨.ref D, rfl, .ref pq, rfl, D, _, rfl, DPut.t (k := plKey (endP Ta i s0 (cl bd) r)) f114 hq14 (big (by omega)), ?_⟩
                    have s714 := s713.trans s14
                    have cP : cA ≠ Pl := fun e => by rw [e, s713 _ _ hPl7] at nc; cases nc
                    have cD : cA ≠ D := fun e => by rw [e, s713 _ _ f1] at nc; cases nc
                    refine ⟨_, rfl, same_upd2 (sP.trans s714) nDH, by rw [upd_ne ID]; exact s714 _ _ hI7, by rw [upd_ne PlD]; exact s714 _ _ hPl7, pile_keep (fun b xs e => by
                      have e2 := s714 _ _ e
                      rw [upd_ne (fun x => by rw [x, f114] at e2; cases e2)]
                      exact e2) hP7, ?_⟩
                    exact found_hit f1 f2 f3 f4 f5 f6 s714 ((sP.trans s713).free nc) cP cD hc ld
                  · rw [decide_eq_false c]
                    refine if_ff ⟨_, rfl, sP, hI7, hPl7, hP7, fa7.miss fun q => ?_⟩
                    unfold leads
                    by_cases e : endP Ta i s0 (cl bd) r = q
                    · rw [← e, eq1]
                      rw [decide_eq_true rfl, Bool.true_and]
                      unfold isInn
                      exact decide_eq_false fun h => c ((mem rest).mpr (begL_mem.mp h))
                    · rw [decide_eq_false e]; rfl
                · obtain ⟨y18, rfl, s8, hI8, hPl8, hP8, fa8⟩ := h
                  have lts : (Ta.ts.map V.str).length = Ta.ts.length := List.length_map ..
                  refine ⟨.ref t, rfl, t, _, rfl, .inr (seqT_grow s8 hT), (Ta.ts.length : Nat), by rw [lts], by omega, by omega, ?_⟩
                  refine for_range0 (n := ((Ta.ts.length : Nat) : Int).toNat) (fun j σ H9 => ∃ (pv : List V) (y11 y19 : Option V), σ = [some (.ref t), some (.ref a), some (.str Ta.g), some (.bl Ta.hl), some (.str hd), some (.int s0), some (.str z), some (.str wh), some (.int (i : Nat)), some (.str bd), some (.ref IL), y11, y12, some (.ref D), some (.ref Pl), some (.int ((rowL Ta.ts r).length : Nat)), some (.int (runG Ta.tab s0 r)), some (.int (r.length : Nat)), y18, y19] ∧ Same H' H9 ∧ H9 IL = some (.lst (zs.map V.str)) ∧ H9 Pl = some (.lst pv) ∧ Paired (PileAt H9 Ta s0) pv (Pi1 ++ kids Ta s0 (cl bd) r j) ∧ FoundAt H' H9 D Pl Ta i s0 (cl bd) (Dn ++ [r]))
                    ⟨pv1, y11, y19, rfl, s8, hI8, hPl8, by simpa [kids] using hP8, fa8⟩ (fun j σ H9 lt h => ?_) (fun σ H9 h => ?_)
                  · obtain ⟨pv, y11, y19, rfl, s9, hI9, hPl9, hP9, fa9⟩ := h
                    rw [Int.toNat_natCast] at lt
                    have etk : Ta.ts[j]? = some Ta.ts[j] := List.getElem?_eq_getElem lt
                    have egd : Ta.ts.getD j "" = Ta.ts[j] := by rw [List.getD_eq_getElem?_getD, etk]; rfl
                    obtain ⟨k1, k12⟩ := ok.len _ (List.getElem_mem lt)
                    generalize Ta.ts[j] = tk at etk egd k1 k12
                    have eat : atI (Ta.ts.map V.str) (j : Int) = some (.str tk) := atI_nat (by rw [List.getElem?_map, etk]; rfl)
                    refine ⟨.int ((rowL Ta.ts r).length : Nat), rfl, .ref t, rfl, .int (j : Nat), rfl, t, _, (j : Nat), .str tk, rfl, rfl, seqT_grow s9 hT, eat, tk, rfl, small' (by omega), _, _, rfl, rfl, ?_⟩
                    have lpv : pv.length ≤ 3000000 := by
                      have h1 := Paired.length hP9
                      have h2 := kids_len Ta s0 (cl bd) r j
                      rw [List.length_append] at h1 lDn
                      omega
                    have et : ((rowL Ta.ts r).length : Int) + (tk.length : Int) = (((rowL Ta.ts r).length + tk.length : Nat) : Int) := by omega
                    refine ⟨.str bd, rfl, .int ((rowL Ta.ts r).length : Nat), rfl, ((rowL Ta.ts r).length : Nat), rfl, .int (((rowL Ta.ts r).length : Int) + (tk.length : Int)), rfl, ((rowL Ta.ts r).length : Int) + (tk.length : Int), rfl, bd, rfl, small' (by omega), .ref t, rfl, .int (j : Nat), rfl, t, _, (j : Nat), .str tk, rfl, rfl, seqT_grow s9 hT, eat, rfl, ?_⟩
                    rw [et, slice_mid (by rw [← glen bd]; exact lrl)]
                    have ek := kids_succ Ta s0 (cl bd) r j
                    have kd : kidB Ta s0 (cl bd) r j = (decide (((cl bd).drop (rowL Ta.ts r).length).take (cl tk).length = cl tk) && decide (0 ≤ cellG Ta.tab (runG Ta.tab s0 r) (j : Int))) := by unfold kidB; rw [egd]
                    have tkl : (cl tk).length = tk.length := glen tk
                    have no : kidB Ta s0 (cl bd) r j = false → ∃ (pv : List V) (y11' y19' : Option V), ([some (.ref t), some (.ref a), some (.str Ta.g), some (.bl Ta.hl), some (.str hd), some (.int s0), some (.str z), some (.str wh), some (.int (i : Nat)), some (.str bd), some (.ref IL), some (.int (j : Nat)), y12, some (.ref D), some (.ref Pl), some (.int ((rowL Ta.ts r).length : Nat)), some (.int (runG Ta.tab s0 r)), some (.int (r.length : Nat)), y18, some (.int (((rowL Ta.ts r).length : Int) + (tk.length : Int)))] : L2.St) = [some (.ref t), some (.ref a), some (.str Ta.g), some (.bl Ta.hl), some (.str hd), some (.int s0), some (.str z), some (.str wh), some (.int (i : Nat)), some (.str bd), some (.ref IL), y11', y12, some (.ref D), some (.ref Pl), some (.int ((rowL Ta.ts r).length : Nat)), some (.int (runG Ta.tab s0 r)), some (.int (r.length : Nat)), y18, y19'] ∧ Same H' H9 ∧ H9 IL = some (.lst (zs.map V.str)) ∧ H9 Pl = some (.lst pv) ∧ Paired (PileAt H9 Ta s0) pv (Pi1 ++ kids Ta s0 (cl bd) r (j + 1)) ∧ FoundAt H' H9 D Pl Ta i s0 (cl bd) (Dn ++ [r]) := fun e => by
                      rw [ek, e, if_neg (by decide), List.append_nil]
                      exact ⟨pv, _, _, rfl, s9, hI9, hPl9, hP9, fa9⟩
                    by_cases c1 : ((cl bd).drop (rowL Ta.ts r).length).take tk.length = cl tk
                    · have c1' : (⟨(((cl bd).drop (rowL Ta.ts r).length).take tk.length).toArray⟩ : Str) = tk := Ver.str_of_list c1
                      have r0 := hf.2.2
                      have r1 := run_lt ok s00 s01 hf.1
                      obtain ⟨e1, e2, _, c1lt⟩ := (ok.bk).cell (s := runG Ta.tab s0 r) (t := (j : Int)) r0 (by show runG Ta.tab s0 r < (Ta.tab.length : Int); rw [ok.tl]; exact r1) (by omega) (by omega)
                      obtain ⟨pn, epn, hpn⟩ := hr2.get e1
                      have ixc : ∀ H10, Same H' H10 → SqT K H10 a tv ∧ SqT K H10 pn ((rowAt Ta.tab (runG Ta.tab s0 r)).map V.int) := fun H10 s10 => ⟨seqT_grow s10 ha, seqT_grow s10 hpn⟩
                      have at1 : atI tv (runG Ta.tab s0 r) = some (.ref pn) := at_ref r0 epn
                      have at2 : atI ((rowAt Ta.tab (runG Ta.tab s0 r)).map V.int) (j : Int) = some (.int (cellG Ta.tab (runG Ta.tab s0 r) (j : Int))) := at_map (by omega) e2
                      rw [c1']
                      refine ⟨true, by rw [decide_eq_true rfl], ?_⟩
                      refine if_tt ⟨.ref a, rfl, .int (runG Ta.tab s0 r), rfl, a, tv, runG Ta.tab s0 r, .ref pn, rfl, rfl, (ixc _ s9).1, at1, .int (j : Nat), rfl, pn, _, (j : Nat), .int (cellG Ta.tab (runG Ta.tab s0 r) (j : Int)), rfl, rfl, (ixc _ s9).2, at2, _, _, rfl, rfl, _, rfl, ?_⟩
                      by_cases c2 : 0 ≤ cellG Ta.tab (runG Ta.tab s0 r) (j : Int)
                      · rw [decide_eq_true c2]
                        refine if_tt ⟨.ref Pl, rfl, .inl ⟨rfl, _, .inl (.inl hPl9)⟩, ?_⟩
                        refine ⟨.int (((rowL Ta.ts r).length : Int) + (tk.length : Int)), rfl, .ref a, rfl, .int (runG Ta.tab s0 r), rfl, a, tv, runG Ta.tab s0 r, .ref pn, rfl, rfl, (ixc _ s9).1, at1, .int (j : Nat), rfl, pn, _, (j : Nat), .int (cellG Ta.tab (runG Ta.tab s0 r) (j : Int)), rfl, rfl, (ixc _ s9).2, at2, .int (r.length : Nat), rfl, _, _, rfl, rfl, small' (by simp), fun pk npk => ?_⟩
                        have kt : kidB Ta s0 (cl bd) r j = true := by rw [kd, tkl, decide_eq_true c1, decide_eq_true c2]; rfl
                        have pl : (rowL Ta.ts (r ++ [(j : Int)])).length = (rowL Ta.ts r).length + tk.length := by
                          rw [rowL_snoc, List.length_append, Int.toNat_natCast, egd, tkl]
                        have pr : runG Ta.tab s0 (r ++ [(j : Int)]) = cellG Ta.tab (runG Ta.tab s0 r) (j : Int) := by rw [run_snoc r0, if_neg (by omega)]
                        have spk := same_new (o := .tup [V.int (((rowL Ta.ts r).length : Int) + (tk.length : Int)), V.int (cellG Ta.tab (runG Ta.tab s0 r) (j : Int)), V.int ((r.length : Int) + 1)]) npk
                        have hpk : (upd H9 pk (.tup [V.int (((rowL Ta.ts r).length : Int) + (tk.length : Int)), V.int (cellG Ta.tab (runG Ta.tab s0 r) (j : Int)), V.int ((r.length : Int) + 1)])) pk = some (.tup [.int ((rowL Ta.ts (r ++ [(j : Int)])).length : Nat), .int (runG Ta.tab s0 (r ++ [(j : Int)])), .int ((r ++ [(j : Int)]).length : Nat)]) := by
                          rw [upd_same, pl, pr, List.length_append, List.length_singleton]
                          congr 3
                        generalize upd H9 pk (.tup [V.int (((rowL Ta.ts r).length : Int) + (tk.length : Int)), V.int (cellG Ta.tab (runG Ta.tab s0 r) (j : Int)), V.int ((r.length : Int) + 1)]) = H10 at spk hpk ⊢
                        have hPl10 := spk _ _ hPl9
                        refine ⟨Pl, _, _, rfl, rfl, hPl10, big (by omega), pv ++ [.ref pk], _, _, rfl, same_upd2 (s9.trans spk) nPlH, by rw [upd_ne (Ne.symm PlI)]; exact spk _ _ hI9, upd_same, ?_, fa9.keep (fun kvs e => by rw [upd_ne (Ne.symm PlD)]; exact spk _ _ e) (fun b xs nb e => by rw [upd_ne nb]; exact spk _ _ e)⟩
                        rw [ek, kt, if_pos rfl, ← List.append_assoc]
                        exact Paired.snoc (pile_keep (fun b xs e => tup_upd hPl10 (spk _ _ e)) hP9) ⟨pk, rfl, tup_upd hPl10 hpk⟩
                      · rw [decide_eq_false c2]
                        refine if_ff (no ?_)
                        rw [kd, decide_eq_false c2, Bool.and_false]
                    · refine ⟨false, by rw [decide_eq_false (fun e => c1 (congrArg cl (V.str.inj e)))], ?_⟩
                      refine if_ff (if_ff (no ?_))
                      rw [kd, tkl, decide_eq_false c1, Bool.false_and]
                  · obtain ⟨pv, y11, y19, rfl, s9, hI9, hPl9, hP9, fa9⟩ := h
                    rw [Int.toNat_natCast] at hP9
                    exact ⟨Dn ++ [r], _, pv, y11, _, _, _, _, y19, rfl, s9, hI9, hPl9, hP9, ow2, fa9, by rw [List.length_append, eDn0]; rfl⟩
    · rw [show (!decide (V.str (takeS wh i) = V.str (takeS Ta.g i))) = true by simp [ag]]
      refine if_tt ?_
      refine fun D nD => q D _ (same_new nD) ⟨[], [], nD, upd_same, rfl, List.nodup_nil, by decide, fun q h => (by cases h), fun q _ r ho => ag (Ver.str_of_list ?_)⟩
      have h1 := ho.1
      rw [← cl_app, ew] at h1
      exact (agree_take e9).mp h1
end
end K58
set_option Elab.async false
set_option linter.all false
set_option maxRecDepth 100000
set_option maxHeartbeats 2000000
namespace K58
open PySem PySem.Spec PyProof.Rows L2 Ver
def partR (A : List A4) (st : Nat) (rs : List Nat) (A' : List A4) (c j : Nat) : List (List Int) := (into A' c j).flatMap fun a => (wayR A st rs a.k).map fun r => extR r a.t
theorem part_snoc (A : List A4) (st : Nat) (rs : List Nat) (A' : List A4) (a : A4) (c j : Nat) : partR A st rs (A' ++ [a]) c j = partR A st rs A' c j ++ (if a.l = oneS c ∧ a.j = j then (wayR A st rs a.k).map fun r => extR r a.t else []) := by
  unfold partR into
  rw [filter_snoc, List.flatMap_append]
  congr 1
  by_cases h : a.l = oneS c ∧ a.j = j
  · rw [if_pos h, if_pos (by rw [Bool.and_eq_true, decide_eq_true_eq, decide_eq_true_eq]; exact h)]
    simp
  · rw [if_neg h, if_neg (by rw [Bool.and_eq_true, decide_eq_true_eq, decide_eq_true_eq]; exact h)]
    rfl
theorem way_len (A : List A4) (st : Nat) : ∀ (rs : List Nat) (j : Nat), ∀ r ∈ wayR A st rs j, r.length ≤ rs.length
  | [], j, r, h => by
    have h : r ∈ (if j = st then [[]] else []) := h
    by_cases e : j = st
    · rw [if_pos e] at h; rw [List.mem_singleton.mp h]; exact Nat.le_refl _
    · rw [if_neg e] at h; cases h
  | c :: rs, j, r, h => by
    obtain ⟨a, _, hr⟩ := List.mem_flatMap.mp h
    obtain ⟨r', hr', rfl⟩ := List.mem_map.mp hr
    have := way_len A st rs a.k r' hr'
    show (extR r' a.t).length ≤ rs.length + 1
    unfold extR
    split
    · rw [List.length_append, List.length_singleton]; omega
    · omega
theorem part_len (A : List A4) (st : Nat) (rs : List Nat) (A' : List A4) (c j : Nat) : ∀ r ∈ partR A st rs A' c j, r.length ≤ rs.length + 1 := fun r h => by
  obtain ⟨a, _, hr⟩ := List.mem_flatMap.mp h
  obtain ⟨r', hr', rfl⟩ := List.mem_map.mp hr
  have := way_len A st rs a.k r' hr'
  unfold extR
  split
  · rw [List.length_append, List.length_singleton]; omega
  · omega
theorem vec_le {R : List (List Int)} {n : Nat} (h : ∀ r ∈ R, r.length ≤ n) : (vecR R).length ≤ n + 1 := by
  rw [vec_len]
  exact top_le.mpr fun r hr => Nat.succ_le_succ (h r hr)
def CountsAt (H0 H : Hp) (D : Addr) (n : Nat) (f : Nat → List (List Int)) : Prop := ∃ kvs : List (L2.Key × V), H D = some (.dK kvs) ∧ kvs.length ≤ n ∧ ∀ j : Nat, (f j = [] ∧ valV kvs (.inl (j : Int)) = none) ∨ (f j ≠ [] ∧ ∃ l, valV kvs (.inl (j : Int)) = some (.ref l) ∧ H0 l = none ∧ H l = some (.lst ((vecR (f j)).map V.int)))
theorem CountsAt.keep {H0 H H' : Hp} {D : Addr} {n : Nat} {f : Nat → List (List Int)} (h : CountsAt H0 H D n f) (kd : ∀ kvs, H D = some (.dK kvs) → H' D = some (.dK kvs)) (kl : ∀ b xs, H b = some (.lst xs) → H' b = some (.lst xs)) : CountsAt H0 H' D n f := by
  obtain ⟨kvs, h1, h2, h3⟩ := h
  refine ⟨kvs, kd _ h1, h2, fun j => ?_⟩
  rcases h3 j with h | ⟨h, l, k1, k2, k3⟩
  · exact .inl h
  · exact .inr ⟨h, l, k1, k2, kl _ _ k3⟩
section
variable {P : Program} {w : World} {K : PySem.W.Frag} {mg : Str → Option Value} {base : Heap}
def sp__law_walk (K : PySem.W.Frag) : Sp := fun vs H Q _ => ∃ (a : Addr) (st : Nat) (z : Str) (va : List V) (A : List A4), vs = [.ref a, .int st, .str z] ∧ SqT K H a va ∧ Paired (A4S K H) va A ∧ A.length ≤ 5000 ∧ z.length ≤ 9 ∧
  ∀ D H', Same H H' → H D = none → CountsAt H H' D 5001 (wayR A st (cl z).reverse) → Q (.ref D) H'
theorem ok__law_walk (T : Tx K mg) : FnOk P w K mg base CX0 2 T.f__law_walk T.d__law_walk ["arcs", "start", "text"] (sp__law_walk K) := by
  refine T.F__law_walk.ok sc__law_walk (fun vs H Q E h => ?_) (fun cdv A outer s H vs Q E hr h => ?_)
  · obtain ⟨a, st, z, va, A, rfl, _⟩ := h; rfl
  · obtain ⟨a, st, z, va, A, rfl, ha, hA, lA, lz, q⟩ := h
    refine ⟨_, (pss_cons (ps_set (i := 3) sc__law_walk.nd rfl (Or.inl rfl) (pe_disp (pps_cons (pv 1) (pe_lst (pa_cons pe_int pa_nil)) pps_nil) rfl rfl (List.cons_ne_nil _ _) (by decide)))
    (pss_cons (ps_for PassesOwn.never rfl (pi_str (pv 2)) (pg_name (i := 4) sc__law_walk.nd rfl (Or.inl rfl))
    (pss_cons (ps_set (i := 5) sc__law_walk.nd rfl (Or.inl rfl) pe_dnewK)
    (pss_cons (ps_for PassesOwn.never rfl (pi_tup (pv 0)) (pg_name (i := 6) sc__law_walk.nd rfl (Or.inl rfl))
    (pss_one (ps_if (PW.pt (pw_and (pt_cmpR op_eq (pe_ix ix_tup (pv 6) pe_int (fun _ _ => rfl)) (pv 4) (nomark _)) (pw_and1 (pt_cmp (pc_din (hu_of hr) (pe_ix ix_tup (pv 6) pe_int (fun _ _ => rfl)) (pv 3)) (by rfl))))) (pss_cons (ps_set (i := 7) sc__law_walk.nd rfl (Or.inl rfl) (pe_dget (hu_of hr) (pv 3) (pe_ix ix_tup (pv 6) pe_int (fun _ _ => rfl)) (fun _ _ => rfl)))
    (C8.pss_cut (ps_if (pt_cmpR op_ge (pe_ix ix_tup (pv 6) pe_int (fun _ _ => rfl)) pe_int (nomark _)) (pss_one (ps_set (i := 7) sc__law_walk.nd rfl (Or.inl rfl) (pe_op op_cat (pe_lst (pa_cons pe_int pa_nil)) (pv 7)))) pss_nil)
    (pss_one (ps_dput (hu_of hr) (pv 5) (pe_ix ix_tup (pv 6) pe_int (fun _ _ => rfl)) (pe_call (ok__law_sum T) hr rfl T.g__law_sum T.F__law_sum.kp T.b__law_sum .nil pass0 (pa_cons (pe_dget2 (hu_of hr) (pv 5) (pe_ix ix_tup (pv 6) pe_int (fun _ _ => rfl)) (pe_lst pa_nil) ⟨rfl, rfl, rfl, rfl⟩) (pa_cons (pv 7) pa_nil))) rfl)))) pss_nil)))
    (pss_one (ps_set (i := 3) sc__law_walk.nd rfl (Or.inl rfl) (pv 5))))))
    (pss_one (ps_ret (pv 3))))), ?_⟩
    refine fun N nN => ?_
    have sN := same_new (o := .dK []) nN
    have hN : (upd H N (.dK [])) N = some (.dK []) := upd_same
    generalize upd H N (.dK []) = H1 at sN hN ⊢
    refine ⟨.int (st : Nat), rfl, small' (by simp), fun l0 nl0 => ?_⟩
    have sl := same_new (o := .lst [V.int 1]) nl0
    have hl0 : (upd H1 l0 (.lst [V.int 1])) l0 = some (.lst [V.int 1]) := upd_same
    have hN2 := sl _ _ hN
    have l0N : l0 ≠ N := fun e => by rw [e, hN] at nl0; cases nl0
    have nl0H : H l0 = none := sN.free nl0
    generalize upd H1 l0 (.lst [V.int 1]) = H2 at sl hl0 hN2 ⊢
    refine ⟨hN2, [(.inl (st : Int), .ref l0)], rfl, by show 1 ≤ 15; decide, ?_⟩
    have s3 : Same H (upd H2 N (.dK (mergeK [] [(Sum.inl (st : Int), V.ref l0)]))) := same_upd2 (sN.trans sl) nN
    have hN3 : (upd H2 N (.dK (mergeK [] [(Sum.inl (st : Int), V.ref l0)]))) N = some (.dK [(Sum.inl (st : Int), V.ref l0)]) := upd_same
    have hl3 : (upd H2 N (.dK (mergeK [] [(Sum.inl (st : Int), V.ref l0)]))) l0 = some (.lst [V.int 1]) := by rw [upd_ne l0N]; exact hl0
    generalize upd H2 N (.dK (mergeK [] [(Sum.inl (st : Int), V.ref l0)])) = H3 at s3 hN3 hl3 ⊢
    have c0 : CountsAt H H3 N 5001 (wayR A st []) := ⟨_, hN3, by show 1 ≤ 5001; decide, fun j => by
      show ((if j = st then [[]] else []) = [] ∧ _) ∨ ((if j = st then [[]] else []) ≠ [] ∧ _)
      by_cases e : j = st
      · subst e
        rw [if_pos rfl]
        exact .inr ⟨by simp, l0, valV_pos rfl, nl0H, by show H3 l0 = some (.lst ((vecR (if j = j then [[]] else [])).map V.int)); rw [if_pos rfl]; exact hl3⟩
      · rw [if_neg e]
        exact .inl ⟨rfl, valV_neg (fun z => e (by have := Sum.inl.inj z; omega))⟩⟩
    refine ⟨.str z, rfl, z, rfl, ?_⟩
    have lz' : z.cps.toList.length = z.length := by rw [Array.length_toList]; rfl
    refine for_str (x := z) (fun i σ H' => ∃ (N : Addr) (y4 y5 y6 y7 : Option V), σ = [some (.ref a), some (.int (st : Nat)), some (.str z), some (.ref N), y4, y5, y6, y7] ∧ Same H H' ∧ H N = none ∧ CountsAt H H' N 5001 (wayR A st ((cl z).take i).reverse))
      ⟨N, none, none, none, none, rfl, s3, nN, c0⟩ (fun i c σ H' ec h => ?_) (fun σ H' h => ?_)
    · obtain ⟨N, y4, y5, y6, y7, rfl, s4, nN, cN⟩ := h
      have ec2 : (cl z)[i]? = some c := by show z.cps.toList[i]? = _; rw [Array.getElem?_toList]; exact ec
      have li : ((cl z).take i).reverse.length ≤ 9 := by rw [List.length_reverse, List.length_take]; have : (cl z).length = z.length := lz'; omega
      have eR : ((cl z).take (i + 1)).reverse = c :: ((cl z).take i).reverse := by rw [take_snoc ec2, List.reverse_append]; rfl
      generalize ((cl z).take i).reverse = rs at cN li eR
      refine fun E nE => ?_
      have sE := same_new (o := .dK []) nE
      have hE : (upd H' E (.dK [])) E = some (.dK []) := upd_same
      have nEH : H E = none := s4.free nE
      have NE : N ≠ E := fun e => by
        obtain ⟨kvs, h1, _⟩ := cN
        rw [e, nE] at h1; cases h1
      have cN5 := cN.keep (fun kvs e => sE _ _ e) (fun b xs e => sE _ _ e)
      have s5 := s4.trans sE
      generalize upd H' E (.dK []) = H5 at sE hE cN5 s5 ⊢
      refine ⟨.ref a, rfl, a, rfl, ⟨_, seqT_grow s5 ha⟩, ?_⟩
      have lva : va.length = A.length := Paired.length hA
      refine for_tup (K := K) (a := a) (xs := va) (fun m σ H6 => ∃ (y6 y7 : Option V), σ = [some (.ref a), some (.int (st : Nat)), some (.str z), some (.ref N), some (.str (oneS c)), some (.ref E), y6, y7] ∧ Same H H6 ∧ CountsAt H H6 N 5001 (wayR A st rs) ∧ CountsAt H H6 E m (partR A st rs (A.take m) c))
        ⟨y6, y7, rfl, s5, cN5, [], hE, Nat.le_refl _, fun j => .inl ⟨rfl, rfl⟩⟩ (fun m σ H6 _ h => ?_) (fun m x σ H6 ex h => ?_) (fun σ H6 h => ?_)
      · obtain ⟨_, _, _, s6, _⟩ := h
        exact seqT_grow s6 ha
      · obtain ⟨y6, y7, rfl, s6, cN6, cE6⟩ := h
        have lti := (List.getElem?_eq_some_iff.mp ex).1
        have ea : A[m]? = some (A[m]'(by omega)) := List.getElem?_eq_getElem _
        generalize A[m]'(by omega) = ar at ea
        obtain ⟨q0, rfl, hq0'⟩ : A4S K H x ar := by
          have := paired_zip hA (x, ar) (List.mem_of_getElem? (i := m) (by rw [List.getElem?_zip_eq_some]; exact ⟨ex, ea⟩))
          exact this
        have hq0 := seqT_grow s6 hq0'
        rw [take_snoc ea]
        have ixq : ∀ H7, Same H H7 → SqT K H7 q0 [.int (ar.k : Nat), .str ar.l, .int (ar.j : Nat), .int ar.t] := fun H7 s7 => seqT_grow s7 hq0'
        have at4 : ∀ (b0 b1 b2 b3 : V), atI [b0, b1, b2, b3] 0 = some b0 ∧ atI [b0, b1, b2, b3] 1 = some b1 ∧ atI [b0, b1, b2, b3] 2 = some b2 ∧ atI [b0, b1, b2, b3] 3 = some b3 := fun b0 b1 b2 b3 => ⟨(atI_nat (j := 0) rfl : atI _ ((0 : Nat) : Int) = _), (atI_nat (j := 1) rfl : atI _ ((1 : Nat) : Int) = _), (atI_nat (j := 2) rfl : atI _ ((2 : Nat) : Int) = _), (atI_nat (j := 3) rfl : atI _ ((3 : Nat) : Int) = _)⟩
        obtain ⟨t0, t1, t2, t3⟩ := at4 (.int (ar.k : Nat)) (.str ar.l) (.int (ar.j : Nat)) (.int ar.t)
        have miss : (∀ j, (if ar.l = oneS c ∧ ar.j = j then (wayR A st rs ar.k).map fun r => extR r ar.t else []) = []) → CountsAt H H6 E (m + 1) (partR A st rs (A.take m ++ [ar]) c) := fun h => by
          obtain ⟨kvs, e1, e2, e3⟩ := cE6
          refine ⟨kvs, e1, by omega, fun j => ?_⟩
          rw [part_snoc, h j, List.append_nil]
          exact e3 j
        refine ⟨.ref q0, rfl, q0, _, 1, .str ar.l, rfl, rfl, ixq _ s6, t1, .str (oneS c), rfl, rfl, ?_⟩
        by_cases c1 : ar.l = oneS c
        · refine ⟨true, by rw [c1, decide_eq_true rfl], ?_⟩
          obtain ⟨kvsN, n1, n2, n3⟩ := _root_.id cN6
          have g := DGet.k (k := Sum.inl (ar.k : Int)) n1
          refine if_tt ⟨.ref q0, rfl, q0, _, 0, .int (ar.k : Nat), rfl, rfl, ixq _ s6, t0, .ref N, rfl, N, _, rfl, g, ?_⟩
          rcases n3 ar.k with ⟨wn, vn⟩ | ⟨wne, l1, vs1, _, hl1⟩
          · refine ⟨false, by rw [vn]; rfl, ?_⟩
            refine if_ff ⟨_, _, rfl, s6, cN6, miss fun j => ?_⟩
            rw [wn]
            split <;> rfl
          · refine ⟨true, by rw [vs1]; rfl, ?_⟩
            rw [vs1] at g
            refine if_tt ?_
            refine ⟨.ref N, rfl, .ref q0, rfl, q0, _, 0, .int (ar.k : Nat), rfl, rfl, ixq _ s6, t0, N, .ref l1, rfl, g, ?_⟩
            have wl : ∀ r ∈ wayR A st rs ar.k, r.length ≤ 9 := fun r hr => Nat.le_trans (way_len A st rs ar.k r hr) li
            refine ⟨fun σ' H7 => ∃ l2, σ' = [some (.ref a), some (.int (st : Nat)), some (.str z), some (.ref N), some (.str (oneS c)), some (.ref E), some (.ref q0), some (.ref l2)] ∧ Same H6 H7 ∧ H7 l2 = some (.lst ((vecR ((wayR A st rs ar.k).map fun r => extR r ar.t)).map V.int)), ?_, fun σ' H7 h => ?_⟩
            · refine ⟨.ref q0, rfl, q0, _, 3, .int ar.t, rfl, rfl, ixq _ s6, t3, _, _, rfl, rfl, _, rfl, ite2 (fun z0 => ?_) (fun z0 => ?_)⟩
              · have t0' : 0 ≤ ar.t := of_decide_eq_true z0
                refine ⟨small' (by simp), fun z1 nz1 => ?_⟩
                have sz1 := same_new (o := .lst [V.int 0]) nz1
                have hz1 : (upd H6 z1 (.lst [V.int 0])) z1 = some (.lst [V.int 0]) := upd_same
                generalize upd H6 z1 (.lst [V.int 0]) = H7 at sz1 hz1 ⊢
                have lv := vec_le wl
                refine ⟨.ref l1, rfl, z1, l1, _, _, rfl, rfl, hz1, sz1 _ _ hl1, Nat.le_of_lt (big (by rw [List.length_singleton, List.length_map]; omega)), fun l2 nl2 => ?_⟩
                refine ⟨l2, rfl, sz1.trans (same_new nl2), ?_⟩
                have ee : ((wayR A st rs ar.k).map fun r => extR r ar.t) = (wayR A st rs ar.k).map fun r => r ++ [ar.t] := List.map_congr_left fun r _ => extR_pos t0'
                rw [upd_same, ee, ← vec_ext wne ar.t]
                rfl
              · have t0' : ¬ 0 ≤ ar.t := fun h => z0 (decide_eq_true h)
                have ee : ((wayR A st rs ar.k).map fun r => extR r ar.t) = wayR A st rs ar.k := by
                  conv => rhs; rw [← List.map_id (wayR A st rs ar.k)]
                  exact List.map_congr_left fun r _ => if_neg t0'
                exact ⟨l1, rfl, Same.refl H6, by rw [ee]; exact hl1⟩
            · obtain ⟨l2, rfl, s67, hl2⟩ := h
              have s7 := s6.trans s67
              obtain ⟨kvs, e1, e2, e3⟩ := cE6
              have e17 := s67 _ _ e1
              refine ⟨.ref E, rfl, E, rfl, .inl ⟨_, .inl e17⟩, .ref q0, rfl, q0, _, 2, .int (ar.j : Nat), rfl, rfl, ixq _ s7, t2, Nat.zero_le _, fun F0 nF0 => ?_⟩
              have sF := same_new (o := .lst []) nF0
              have hF : (upd H7 F0 (.lst [])) F0 = some (.lst []) := upd_same
              have e18 := sF _ _ e17
              have hl28 := sF _ _ hl2
              have g2 := DGet.k (k := Sum.inl (ar.j : Int)) e18
              obtain ⟨Lx, hLx, eLx⟩ : ∃ Lx, (upd H7 F0 (.lst [])) Lx = some (.lst ((vecR (partR A st rs (A.take m) c ar.j)).map V.int)) ∧ (valV kvs (.inl (ar.j : Int))).getD (.ref F0) = .ref Lx := by
                rcases e3 ar.j with ⟨h1, h2⟩ | ⟨h1, l, h2, _, h4⟩
                · exact ⟨F0, by rw [h1]; exact hF, by rw [h2]; rfl⟩
                · exact ⟨l, sF _ _ (s67 _ _ h4), by rw [h2]; rfl⟩
              have s8 := s67.trans sF
              generalize upd H7 F0 (.lst []) = H8 at sF hF e18 hl28 g2 hLx s8 ⊢
              refine ⟨_, g2, ?_⟩
              rw [eLx]
              have b1 := vec_le (R := partR A st rs (A.take m) c ar.j) (part_len A st rs (A.take m) c ar.j)
              have b2 : (vecR ((wayR A st rs ar.k).map fun r => extR r ar.t)).length ≤ 10 + 1 := vec_le fun r hr => by
                obtain ⟨r', hr', rfl⟩ := List.mem_map.mp hr
                have := wl r' hr'
                unfold extR
                split
                · rw [List.length_append, List.length_singleton]; omega
                · omega
              refine ⟨.ref l2, rfl, Lx, l2, _, _, rfl, hLx, hl28, by omega, by omega, fun cA H9 s9 nc hc => ?_⟩
              rw [vec_sum] at hc
              have e19 := s9 _ _ e18
              have s69 := s8.trans s9
              refine ⟨.ref E, rfl, .ref q0, rfl, q0, _, 2, .int (ar.j : Nat), rfl, rfl, ixq _ (s6.trans s69), t2, E, _, rfl, DPut.k (k := Sum.inl (ar.j : Int)) e19 (big (by omega)), ?_⟩
              have cE : cA ≠ E := fun e => by rw [e, e18] at nc; cases nc
              have lE : ∀ b xs, H6 b = some (.lst xs) → (upd H9 E (.dK (putK kvs (Sum.inl (ar.j : Int)) (.ref cA)))) b = some (.lst xs) := fun b xs e => by
                have := s69 _ _ e
                rw [upd_ne (fun x => by rw [x, e19] at this; cases this)]
                exact this
              refine ⟨_, _, rfl, same_upd2 (s6.trans s69) nEH, cN6.keep (fun kvs e => by rw [upd_ne NE]; exact s69 _ _ e) lE, _, upd_same, ?_, fun j => ?_⟩
              · unfold putK
                split
                · rw [List.length_map]; omega
                · rw [List.length_append, List.length_singleton]; omega
              · rw [part_snoc, valV_put]
                by_cases ej : ar.j = j
                · subst ej
                  rw [if_pos ⟨c1, rfl⟩, if_pos rfl]
                  refine .inr ⟨fun h => wne (List.map_eq_nil_iff.mp (List.append_eq_nil_iff.mp h).2), cA, rfl, (s6.trans s8).free nc, ?_⟩
                  rw [upd_ne cE]
                  exact hc
                · rw [if_neg fun h => ej h.2, List.append_nil, if_neg (fun h => ej (by have := Sum.inl.inj h; omega))]
                  rcases e3 j with h | ⟨h, l, h1, h2, h3⟩
                  · exact .inl h
                  · exact .inr ⟨h, l, h1, h2, lE _ _ h3⟩
        · refine ⟨false, by rw [decide_eq_false fun e => c1 (V.str.inj e)], ?_⟩
          exact if_ff (if_ff ⟨_, _, rfl, s6, cN6, miss fun j => if_neg fun h => c1 h.1⟩)
      · obtain ⟨y6, y7, rfl, s6, cN6, cE6⟩ := h
        rw [lva, List.take_length] at cE6
        obtain ⟨kvs, e1, e2, e3⟩ := cE6
        exact ⟨.ref E, rfl, E, _, _, _, _, rfl, s6, nEH, by rw [eR]; exact ⟨kvs, e1, by omega, e3⟩⟩
    · obtain ⟨N, y4, y5, y6, y7, rfl, s4, nN, cN⟩ := h
      rw [← lz', List.take_length] at cN
      exact ⟨.ref N, rfl, q N H' s4 nN cN⟩
end
end K58
set_option Elab.async false
set_option linter.all false
set_option maxRecDepth 100000
set_option maxHeartbeats 2000000
namespace K58
open PySem PySem.Spec PyProof.Rows L2 Ver
theorem arc_shape {T : Ta} {P : List Pl} {a : A4} (h : IsA4 T P a) : a.k < P.length ∧ a.j < P.length ∧ a.l.length = 1 ∧ -1 ≤ a.t ∧ a.t < (T.ts.length : Int) := by
  obtain ⟨p, r, h1, h2, h3, h4, h5⟩ := h
  refine ⟨(List.getElem?_eq_some_iff.mp h1).1, (List.getElem?_eq_some_iff.mp h3).1, ?_⟩
  rw [h4, h5]
  cases h2 with
  | ahead => exact ⟨rfl, Int.le_refl (-1), by show (-1 : Int) < _; omega⟩
  | inner => exact ⟨rfl, Int.le_refl (-1), by show (-1 : Int) < _; omega⟩
  | @ends c t e1 e2 e3 =>
    have := (List.getElem?_eq_some_iff.mp e3).1
    exact ⟨rfl, by show (-1 : Int) ≤ (t : Int); omega, by show (t : Int) < _; omega⟩
theorem dp_pl3 {K : PySem.W.Frag} {H : Hp} {v : V} {p : Pl} (h : Dp K H v (plD p)) : ∃ r, v = .ref r ∧ SqT K H r [.int (p.i : Nat), .int p.b, .str p.u] := by
  cases h with
  | tup hs ha =>
    cases ha with
    | cons h1 t1 =>
      cases h1
      cases t1 with
      | cons h2 t2 =>
        cases h2
        cases t2 with
        | cons h3 t3 =>
          cases h3
          cases t3
          exact ⟨_, rfl, hs⟩
theorem fins_lt {T : Ta} {P : List Pl} {k : Nat} (h : k ∈ finsOf T P) : k < P.length := by
  unfold finsOf at h
  exact List.mem_range.mp (List.mem_filter.mp h).1
section
variable {P : Program} {w : World} {K : PySem.W.Frag} {mg : Str → Option Value} {base : Heap}
def sp__law_shape (K : PySem.W.Frag) : Sp := fun vs H Q _ => ∃ (x : Addr) (T : Ta) (P : List Pl) (A : List A4), vs = [.ref x, .int (T.ts.length : Nat), .int (T.count : Nat)] ∧ Dp K H (.ref x) (spD T P A) ∧ T.Ok ∧ T.g.length ≤ 9 ∧ IsPs T P ∧ IsAs T P A ∧ P.length ≤ 20000 ∧ A.length ≤ 2400000 ∧ Q (.bl true) H
theorem ok__law_shape (T : Tx K mg) : FnOk P w K mg base CX0 2 T.f__law_shape T.d__law_shape ["told", "many", "states"] (sp__law_shape K) := by
  refine T.F__law_shape.ok sc__law_shape (fun vs H Q E h => ?_) (fun cdv A outer s H vs Q E hr h => ?_)
  · obtain ⟨x, T, P, A, rfl, _⟩ := h; rfl
  · obtain ⟨x, Ta, Ps, A, rfl, hx, ok, lg, ips, ias, lP, lA, q⟩ := h
    refine ⟨_, (pss_cons (ps_if (PW.pt (pw_or (pt_not (pt_val (pe_callB (cr_isiD (n := "tuple") (by decide)) (by rfl) T.n_isinstance (by decide +kernel) (pa_cons (pv 0) (pa_cons (pe_bltn (v := .ty "tuple") (by rfl) T.n_tuple (by decide +kernel) rfl) pa_nil))))) (pw_or1 (pt_cmpR op_ne (pe_callB call_len_seq (by rfl) T.n_len (by decide +kernel) (pa_cons (pv 0) pa_nil)) pe_int (nomark _))))) (pss_one (ps_ret pe_bl)) pss_nil)
    (pss_cons (ps_for PassesOwn.never rfl (pi_tup (pv 0)) (pg_name (i := 3) sc__law_shape.nd rfl (Or.inl rfl))
    (pss_one (ps_if (pt_not (pt_val (pe_callB (cr_isiD (n := "tuple") (by decide)) (by rfl) T.n_isinstance (by decide +kernel) (pa_cons (pv 3) (pa_cons (pe_bltn (v := .ty "tuple") (by rfl) T.n_tuple (by decide +kernel) rfl) pa_nil))))) (pss_one (ps_ret pe_bl)) pss_nil)))
    (pss_cons (ps_asg (pv 0) (pg_tup (by rfl) (pgs_cons (pg_name (i := 4) sc__law_shape.nd rfl (Or.inl rfl)) (pgs_cons (pg_name (i := 5) sc__law_shape.nd rfl (Or.inl rfl)) (pgs_cons (pg_name (i := 6) sc__law_shape.nd rfl (Or.inl rfl)) pgs_nil)))))
    (pss_cons (ps_for PassesOwn.never rfl (pi_tup (pv 4)) (pg_name (i := 7) sc__law_shape.nd rfl (Or.inl rfl))
    (pss_cons (ps_if (PW.pt (pw_or (pt_not (pt_val (pe_callB (cr_isiD (n := "tuple") (by decide)) (by rfl) T.n_isinstance (by decide +kernel) (pa_cons (pv 7) (pa_cons (pe_bltn (v := .ty "tuple") (by rfl) T.n_tuple (by decide +kernel) rfl) pa_nil))))) (pw_or (pt_cmpR op_ne (pe_callB call_len_seq (by rfl) T.n_len (by decide +kernel) (pa_cons (pv 7) pa_nil)) pe_int (nomark _)) (pw_or1 (pt_not (pt_val (pe_callB (cr_isiD (n := "str") (by decide)) (by rfl) T.n_isinstance (by decide +kernel) (pa_cons (pe_ix ix_tup (pv 7) pe_int (fun _ _ => rfl)) (pa_cons (pe_bltn (v := .ty "str") (by rfl) T.n_str (by decide +kernel) rfl) pa_nil))))))))) (pss_one (ps_ret pe_bl)) pss_nil)
    (pss_one (ps_if (PW.pt (pw_or (pt_not (pt_val (pe_call (ok__law_number T) hr rfl T.g__law_number T.F__law_number.kp T.b__law_number .nil pass0 (pa_cons (pe_ix ix_tup (pv 7) pe_int (fun _ _ => rfl)) (pa_cons pe_int (pa_cons pe_int pa_nil)))))) (pw_or1 (pt_not (pt_val (pe_call (ok__law_number T) hr rfl T.g__law_number T.F__law_number.kp T.b__law_number .nil pass0 (pa_cons (pe_ix ix_tup (pv 7) pe_int (fun _ _ => rfl)) (pa_cons pe_int (pa_cons (pv 2) pa_nil))))))))) (pss_one (ps_ret pe_bl)) pss_nil))))
    (pss_cons (ps_for PassesOwn.never rfl (pi_tup (pv 5)) (pg_name (i := 8) sc__law_shape.nd rfl (Or.inl rfl))
    (pss_one (ps_if (pt_not (pt_val (pe_call (ok__law_number T) hr rfl T.g__law_number T.F__law_number.kp T.b__law_number .nil pass0 (pa_cons (pv 8) (pa_cons pe_int (pa_cons (pe_callB call_len_seq (by rfl) T.n_len (by decide +kernel) (pa_cons (pv 4) pa_nil)) pa_nil)))))) (pss_one (ps_ret pe_bl)) pss_nil)))
    (pss_cons (ps_for PassesOwn.never rfl (pi_tup (pv 6)) (pg_name (i := 9) sc__law_shape.nd rfl (Or.inl rfl))
    (pss_cons (ps_if (PW.pt (pw_or (pt_not (pt_val (pe_callB (cr_isiD (n := "tuple") (by decide)) (by rfl) T.n_isinstance (by decide +kernel) (pa_cons (pv 9) (pa_cons (pe_bltn (v := .ty "tuple") (by rfl) T.n_tuple (by decide +kernel) rfl) pa_nil))))) (pw_or (pt_cmpR op_ne (pe_callB call_len_seq (by rfl) T.n_len (by decide +kernel) (pa_cons (pv 9) pa_nil)) pe_int (nomark _)) (pw_or (pt_not (pt_val (pe_callB (cr_isiD (n := "str") (by decide)) (by rfl) T.n_isinstance (by decide +kernel) (pa_cons (pe_ix ix_tup (pv 9) pe_int (fun _ _ => rfl)) (pa_cons (pe_bltn (v := .ty "str") (by rfl) T.n_str (by decide +kernel) rfl) pa_nil))))) (pw_or1 (pt_cmpR op_ne (pe_callB call_len_str (by rfl) T.n_len (by decide +kernel) (pa_cons (pe_ix ix_tup (pv 9) pe_int (fun _ _ => rfl)) pa_nil)) pe_int (nomark _))))))) (pss_one (ps_ret pe_bl)) pss_nil)
    (pss_cons (ps_if (PW.pt (pw_or (pt_not (pt_val (pe_call (ok__law_number T) hr rfl T.g__law_number T.F__law_number.kp T.b__law_number .nil pass0 (pa_cons (pe_ix ix_tup (pv 9) pe_int (fun _ _ => rfl)) (pa_cons pe_int (pa_cons (pe_callB call_len_seq (by rfl) T.n_len (by decide +kernel) (pa_cons (pv 4) pa_nil)) pa_nil)))))) (pw_or1 (pt_not (pt_val (pe_call (ok__law_number T) hr rfl T.g__law_number T.F__law_number.kp T.b__law_number .nil pass0 (pa_cons (pe_ix ix_tup (pv 9) pe_int (fun _ _ => rfl)) (pa_cons pe_int (pa_cons (pe_callB call_len_seq (by rfl) T.n_len (by decide +kernel) (pa_cons (pv 4) pa_nil)) pa_nil))))))))) (pss_one (ps_ret pe_bl)) pss_nil)
    (pss_one (ps_if (pt_not (pt_val (pe_call (ok__law_number T) hr rfl T.g__law_number T.F__law_number.kp T.b__law_number .nil pass0 (pa_cons (pe_ix ix_tup (pv 9) pe_int (fun _ _ => rfl)) (pa_cons (pe_un un_neg pe_int) (pa_cons (pv 1) pa_nil)))))) (pss_one (ps_ret pe_bl)) pss_nil)))))
    (pss_one (ps_ret pe_bl)))))))), ?_⟩
    obtain ⟨q0, p0, f0, a0, vp, vf, va, ex, s0, s1, d1, s2, d2, s3, d3⟩ := dp_sp hx
    have ex : x = q0 := by injection ex
    subst ex
    have hx3 : DpAll K H [.ref p0, .ref f0, .ref a0] [.tuple (Ps.map plD), .tuple ((finsOf Ta Ps).map fun k => .int (k : Nat)), .tuple (A.map a4D)] := .cons (.tup s1 d1) (.cons (.tup s2 d2) (.cons (.tup s3 d3) .nil))
    have lvp : vp.length = Ps.length := by have := dpAll_len d1; rw [List.length_map] at this; exact this
    have lva : va.length = A.length := by have := dpAll_len d3; rw [List.length_map] at this; exact this
    refine ⟨.ref x, rfl, .ref x, _, rfl, hx, _, rfl, if_ff ⟨.ref x, rfl, x, _, rfl, .inr s0, rfl, _, rfl, if_ff ?_⟩⟩
    refine ⟨.ref x, rfl, x, rfl, ⟨_, s0⟩, ?_⟩
    refine for_tup (K := K) (a := x) (xs := [.ref p0, .ref f0, .ref a0]) (fun i σ H' => H' = H ∧ ∃ y3, σ = [some (.ref x), some (.int (Ta.ts.length : Nat)), some (.int (Ta.count : Nat)), y3, none, none, none, none, none, none]) ⟨rfl, none, rfl⟩ (fun i σ H' _ h => by rw [h.1]; exact s0) (fun i y σ H' ey h => ?_) (fun σ H' h => ?_)
    · obtain ⟨rfl, y3, rfl⟩ := h
      obtain ⟨d, ed, hd⟩ := dpAll_get hx3 ey
      obtain ⟨ds, rfl⟩ : ∃ ds, d = .tuple ds := by
        match i, ed with
        | 0, ed => exact ⟨_, (Option.some.inj ed).symm⟩
        | 1, ed => exact ⟨_, (Option.some.inj ed).symm⟩
        | 2, ed => exact ⟨_, (Option.some.inj ed).symm⟩
        | n + 3, ed => cases ed
      exact ⟨y, rfl, y, _, rfl, hd, _, rfl, if_ff ⟨rfl, _, rfl⟩⟩
    obtain ⟨rfl, y3, rfl⟩ := h
    refine ⟨.ref x, rfl, x, _, rfl, s0, rfl, .ref p0, _, rfl, .ref f0, _, rfl, .ref a0, _, rfl, rfl, ?_⟩
    have at3 : ∀ (b0 b1 b2 : V), atI [b0, b1, b2] 0 = some b0 ∧ atI [b0, b1, b2] 1 = some b1 ∧ atI [b0, b1, b2] 2 = some b2 := fun b0 b1 b2 => ⟨(atI_nat (j := 0) rfl : atI _ ((0 : Nat) : Int) = _), (atI_nat (j := 1) rfl : atI _ ((1 : Nat) : Int) = _), (atI_nat (j := 2) rfl : atI _ ((2 : Nat) : Int) = _)⟩
    have at4 : ∀ (b0 b1 b2 b3 : V), atI [b0, b1, b2, b3] 0 = some b0 ∧ atI [b0, b1, b2, b3] 1 = some b1 ∧ atI [b0, b1, b2, b3] 2 = some b2 ∧ atI [b0, b1, b2, b3] 3 = some b3 := fun b0 b1 b2 b3 => ⟨(atI_nat (j := 0) rfl : atI _ ((0 : Nat) : Int) = _), (atI_nat (j := 1) rfl : atI _ ((1 : Nat) : Int) = _), (atI_nat (j := 2) rfl : atI _ ((2 : Nat) : Int) = _), (atI_nat (j := 3) rfl : atI _ ((3 : Nat) : Int) = _)⟩
    refine ⟨.ref p0, rfl, p0, rfl, ⟨_, s1⟩, ?_⟩
    refine for_tup (K := K) (a := p0) (xs := vp) (fun i σ H2 => H2 = H' ∧ ∃ y7, σ = [some (.ref x), some (.int (Ta.ts.length : Nat)), some (.int (Ta.count : Nat)), y3, some (.ref p0), some (.ref f0), some (.ref a0), y7, none, none]) ⟨rfl, none, rfl⟩ (fun i σ H2 _ h => by rw [h.1]; exact s1) (fun i y σ H2 ey h => ?_) (fun σ H2 h => ?_)
    · obtain ⟨rfl, y7, rfl⟩ := h
      obtain ⟨d, ed, hd⟩ := dpAll_get d1 ey
      rw [List.getElem?_map] at ed
      cases ep : Ps[i]? with
      | none => rw [ep] at ed; cases ed
      | some p =>
        rw [ep] at ed
        have ed : plD p = d := Option.some.inj ed
        subst ed
        have hin := reach_in ok ((ips.mem p).mp (List.mem_of_getElem? ep))
        obtain ⟨r, rfl, sr⟩ := dp_pl3 hd
        obtain ⟨t0, t1, t2⟩ := at3 (.int (p.i : Nat)) (.int p.b) (.str p.u)
        refine ⟨.ref r, rfl, .ref r, _, rfl, hd, _, rfl, if_ff ⟨.ref r, rfl, r, _, rfl, .inr sr, rfl, _, rfl, if_ff ?_⟩⟩
        refine ⟨.ref r, rfl, r, _, 2, .str p.u, rfl, rfl, sr, t2, .str p.u, .str p.u, rfl, .str p.u, _, rfl, if_ff ?_⟩
        refine ⟨.ref r, rfl, r, _, 0, .int (p.i : Nat), rfl, rfl, sr, t0, (p.i : Nat), 0, 10, rfl, ?_⟩
        rw [decide_eq_true (show (0 : Int) ≤ ((p.i : Nat) : Int) by omega), decide_eq_true (show ((p.i : Nat) : Int) < 10 by have := hin.1; omega)]
        refine ⟨true, rfl, if_ff ?_⟩
        refine ⟨.ref r, rfl, r, _, 1, .int p.b, rfl, rfl, sr, t1, .int (Ta.count : Nat), rfl, p.b, 0, (Ta.count : Nat), rfl, ?_⟩
        rw [decide_eq_true hin.2.1, decide_eq_true hin.2.2.1]
        exact ⟨true, rfl, if_ff ⟨rfl, _, rfl⟩⟩
    obtain ⟨rfl, y7, rfl⟩ := h
    refine ⟨.ref f0, rfl, f0, rfl, ⟨_, s2⟩, ?_⟩
    refine for_tup (K := K) (a := f0) (xs := vf) (fun i σ H3 => H3 = H2 ∧ ∃ y8, σ = [some (.ref x), some (.int (Ta.ts.length : Nat)), some (.int (Ta.count : Nat)), y3, some (.ref p0), some (.ref f0), some (.ref a0), y7, y8, none]) ⟨rfl, none, rfl⟩ (fun i σ H3 _ h => by rw [h.1]; exact s2) (fun i y σ H3 ey h => ?_) (fun σ H3 h => ?_)
    · obtain ⟨rfl, y8, rfl⟩ := h
      obtain ⟨d, ed, hd⟩ := dpAll_get d2 ey
      rw [List.getElem?_map] at ed
      cases ep : (finsOf Ta Ps)[i]? with
      | none => rw [ep] at ed; cases ed
      | some k =>
        rw [ep] at ed
        have ed : PyData.int (k : Nat) = d := Option.some.inj ed
        subst ed
        cases hd
        have lk := fins_lt (List.mem_of_getElem? ep)
        refine ⟨.int (k : Nat), rfl, .ref p0, rfl, p0, _, rfl, .inr s1, (k : Nat), 0, (vp.length : Nat), rfl, ?_⟩
        rw [decide_eq_true (show (0 : Int) ≤ ((k : Nat) : Int) by omega), decide_eq_true (show ((k : Nat) : Int) < ((vp.length : Nat) : Int) by omega)]
        exact ⟨true, rfl, if_ff ⟨rfl, _, rfl⟩⟩
    obtain ⟨rfl, y8, rfl⟩ := h
    refine ⟨.ref a0, rfl, a0, rfl, ⟨_, s3⟩, ?_⟩
    refine for_tup (K := K) (a := a0) (xs := va) (fun i σ H4 => H4 = H3 ∧ ∃ y9, σ = [some (.ref x), some (.int (Ta.ts.length : Nat)), some (.int (Ta.count : Nat)), y3, some (.ref p0), some (.ref f0), some (.ref a0), y7, y8, y9]) ⟨rfl, none, rfl⟩ (fun i σ H4 _ h => by rw [h.1]; exact s3) (fun i y σ H4 ey h => ?_) (fun σ H4 h => ?_)
    · obtain ⟨rfl, y9, rfl⟩ := h
      obtain ⟨d, ed, hd⟩ := dpAll_get d3 ey
      rw [List.getElem?_map] at ed
      cases ep : A[i]? with
      | none => rw [ep] at ed; cases ed
      | some a =>
        rw [ep] at ed
        have ed : a4D a = d := Option.some.inj ed
        subst ed
        obtain ⟨k1, k2, k3, k4, k5⟩ := arc_shape ((ias.mem a).mp (List.mem_of_getElem? ep))
        obtain ⟨r, rfl, sr⟩ := dp_four hd
        obtain ⟨t0, t1, t2, t3⟩ := at4 (.int (a.k : Nat)) (.str a.l) (.int (a.j : Nat)) (.int a.t)
        refine ⟨.ref r, rfl, .ref r, _, rfl, hd, _, rfl, if_ff ⟨.ref r, rfl, r, _, rfl, .inr sr, rfl, _, rfl, if_ff ?_⟩⟩
        refine ⟨.ref r, rfl, r, _, 1, .str a.l, rfl, rfl, sr, t1, .str a.l, .str a.l, rfl, .str a.l, _, rfl, if_ff ?_⟩
        refine ⟨.ref r, rfl, r, _, 1, .str a.l, rfl, rfl, sr, t1, a.l, rfl, small' (by omega), rfl, ?_⟩
        rw [k3]
        refine ⟨false, rfl, if_ff ?_⟩
        refine ⟨.ref r, rfl, r, _, 0, .int (a.k : Nat), rfl, rfl, sr, t0, .ref p0, rfl, p0, _, rfl, .inr s1, (a.k : Nat), 0, (vp.length : Nat), rfl, ?_⟩
        rw [decide_eq_true (show (0 : Int) ≤ ((a.k : Nat) : Int) by omega), decide_eq_true (show ((a.k : Nat) : Int) < ((vp.length : Nat) : Int) by omega)]
        refine ⟨true, rfl, if_ff ?_⟩
        refine ⟨.ref r, rfl, r, _, 2, .int (a.j : Nat), rfl, rfl, sr, t2, .ref p0, rfl, p0, _, rfl, .inr s1, (a.j : Nat), 0, (vp.length : Nat), rfl, ?_⟩
        rw [decide_eq_true (show (0 : Int) ≤ ((a.j : Nat) : Int) by omega), decide_eq_true (show ((a.j : Nat) : Int) < ((vp.length : Nat) : Int) by omega)]
        refine ⟨true, rfl, if_ff ?_⟩
        refine ⟨.ref r, rfl, r, _, 3, .int a.t, rfl, rfl, sr, t3, 1, rfl, .int (Ta.ts.length : Nat), rfl, a.t, -1, (Ta.ts.length : Nat), rfl, ?_⟩
        rw [decide_eq_true k4, decide_eq_true k5]
        exact ⟨true, rfl, if_ff ⟨rfl, _, rfl⟩⟩
    obtain ⟨rfl, y9, rfl⟩ := h
    exact q
end
end K58
set_option Elab.async false
set_option linter.all false
set_option maxRecDepth 100000
set_option maxHeartbeats 2000000
namespace K58
open PySem PySem.Spec PyProof.Rows L2 Ver
def lowS (z : Str) : Prop := ∀ c ∈ z.cps.toList, c < 1114112
theorem low_ok {z : Str} (h : lowS z) : PyData.strOk z = true := by
  unfold PyData.strOk
  rw [← Array.all_toList]
  exact List.all_eq_true.mpr fun c hc => decide_eq_true (h c hc)
theorem str_beq (x y : Str) : (x == y) = decide (x = y) := by
  by_cases h : x = y
  · subst h; simp
  · rw [decide_eq_false h]; exact beq_eq_false_iff_ne.mpr h
theorem int_beq (x y : Int) : (x == y) = decide (x = y) := by
  by_cases h : x = y
  · subst h; simp
  · rw [decide_eq_false h]; exact beq_eq_false_iff_ne.mpr h
theorem eqv_pl (a b : Pl) : PyData.eqv (plD a) (plD b) = decide (a = b) := by
  obtain ⟨i, bb, u⟩ := a
  obtain ⟨i', bb', u'⟩ := b
  show (((i : Int) == (i' : Int)) && ((bb == bb') && ((u == u') && true))) = _
  rw [str_beq, int_beq, int_beq, Bool.and_true, Bool.eq_iff_iff]
  simp only [Bool.and_eq_true, decide_eq_true_eq, Pl.mk.injEq]
  constructor
  · rintro ⟨h2, h3, h4⟩; exact ⟨by omega, h3, h4⟩
  · rintro ⟨h2, h3, h4⟩; exact ⟨by omega, h3, h4⟩
theorem any_pl (r : Pl) : ∀ rs : List Pl, ((rs.map plD).any fun z => PyData.eqv z (plD r)) = decide (r ∈ rs)
  | [] => rfl
  | x :: rs => by
    rw [List.map_cons, List.any_cons, any_pl r rs, eqv_pl]
    by_cases c : x = r
    · subst c
      simp
    · rw [decide_eq_false c, Bool.false_or]
      by_cases c2 : r ∈ rs
      · rw [decide_eq_true c2, decide_eq_true (List.mem_cons_of_mem _ c2)]
      · rw [decide_eq_false c2, decide_eq_false (fun z => (List.mem_cons.mp z).elim (fun e => c e.symm) c2)]
theorem lay_pl {p : Pl} (h : lowS p.u) : (plD p).canLay0 = true := by
  show (true && (true && (PyData.strOk p.u && true))) = true
  rw [low_ok h]
  rfl
theorem lay_pls : ∀ {ps : List Pl}, (∀ p ∈ ps, lowS p.u) → PyData.canLayAll0 (ps.map plD) = true
  | [], _ => rfl
  | p :: ps, h => by
    show ((plD p).canLay0 && PyData.canLayAll0 (ps.map plD)) = true
    rw [lay_pl (h p List.mem_cons_self), lay_pls fun b hb => h b (List.mem_cons_of_mem _ hb)]
    rfl
theorem deep_pls : ∀ ps : List Pl, PyData.depthAll (ps.map plD) ≤ 1
  | [] => Nat.zero_le _
  | p :: ps => by
    show max (plD p).depth (PyData.depthAll (ps.map plD)) ≤ 1
    have := deep_pls ps
    have e : (plD p).depth = 1 := rfl
    omega
theorem shaped_pl {p : Pl} (h : lowS p.u) : SeqAt.shaped (plD p) = true := by
  show ((plD p).canLay0 && decide ((plD p).depth ≤ 64)) = true
  rw [lay_pl h]
  rfl
theorem shaped_tpls {ps : List Pl} (h : ∀ p ∈ ps, lowS p.u) : SeqAt.shaped (.tuple (ps.map plD)) = true := by
  show (PyData.canLayAll0 (ps.map plD) && decide (PyData.depthAll (ps.map plD) + 1 ≤ 64)) = true
  have := deep_pls ps
  rw [lay_pls h, decide_eq_true (by omega)]
  rfl
theorem lay_ints : ∀ x : List Int, PyData.canLayAll0 (x.map PyData.int) = true
  | [] => rfl
  | _ :: x => lay_ints x
theorem deep_ints : ∀ x : List Int, PyData.depthAll (x.map PyData.int) = 0
  | [] => rfl
  | i :: x => by
    show max 0 (PyData.depthAll (x.map PyData.int)) = 0
    rw [deep_ints x]
    rfl
theorem shaped_ints (x : List Int) : SeqAt.shaped (.list (x.map PyData.int)) = true := by
  show (PyData.canLayAll0 (x.map PyData.int) && decide (PyData.depthAll (x.map PyData.int) + 1 ≤ 64)) = true
  rw [lay_ints, deep_ints]
  rfl
theorem dp_intL {K : PySem.W.Frag} {H : Hp} : ∀ x : List Int, DpAll K H (x.map V.int) (x.map PyData.int)
  | [] => .nil
  | i :: x => .cons (.int i) (dp_intL x)
theorem eqv_ints (x : List Int) : PyData.eqv (.list (x.map PyData.int)) (.list (x.map PyData.int)) = true := SeqAt.eqv_refl _ (SeqAt.canLay_of_shaped (shaped_ints x))
theorem hu65 {A : Around} {k : Nat} (hr : Room k A) : A.units + 65 < cLine := by have := hr.un; omega
section
variable {X : Cx}
def rNotInDT (K : PySem.W.Frag) : R2 := fun x y H Q => ∃ d ds, Dp K H x d ∧ Dp K H y (.tuple ds) ∧ SeqAt.shaped d = true ∧ SeqAt.shaped (.tuple ds) = true ∧ Q (.bl (!ds.any fun z => PyData.eqv z d)) H
theorem op_notInDT (hu : X.A.units + 65 < cLine) : OpR X (compareOp .NotIn) (rNotInDT X.K) := by
  intro pins s σ H x y v u Q I rx ry h
  obtain ⟨d, ds, hd, he, sd, se, q⟩ := h
  obtain ⟨as, r1⟩ := Dp.reads I d x v hd rx
  obtain ⟨bs, r2⟩ := Dp.reads I (.tuple ds) y u he ry
  exact SeqAt.notIn_tuple_reads r2 r1 (SeqAt.canLay_of_shaped se) (SeqAt.canLay_of_shaped sd) (room_in_shaped sd hu) ⟨.bl _, H, I, rfl, q⟩
end
theorem passLA {X : Cx} {σ : L2.St} : PassesAt (L2.CX X.prog X.w) X σ E0 := fun _ _ _ _ _ _ h => by
  obtain ⟨_, _, _, _, _, _, _, _, _, _, _, _, z⟩ := h
  exact z.elim
theorem a4s_cost {K : PySem.W.Frag} {H : Hp} : ∀ {as : List A4} {vs : List V}, DpAll K H vs (as.map costD) → Paired (A4S K H) vs (as.map costA)
  | [], _, h => by cases h; exact .nil
  | a :: as, _, h => by
    cases h with
    | cons h1 h2 =>
      have h1' : Dp K H _ (a4D (costA a)) := h1
      obtain ⟨q, e, hq⟩ := dp_four h1'
      exact .cons ⟨q, e, hq⟩ (a4s_cost h2)
theorem a4s_at {K : PySem.W.Frag} {H : Hp} : ∀ {vs : List V} {as : List A4}, Paired (A4At H) vs as → Paired (A4S K H) vs as
  | _, _, .nil => .nil
  | _, _, .cons ⟨q, h1, h2⟩ t => .cons ⟨q, h1, .inl (.inl h2)⟩ (a4s_at t)
end K58
set_option Elab.async false
set_option linter.all false
set_option maxRecDepth 100000
set_option maxHeartbeats 2000000
namespace K58
open PySem PySem.Spec PyProof.Rows L2 Ver
theorem CountsAt.keep2 {H0 H H' : Hp} {D : Addr} {n : Nat} {f : Nat → List (List Int)} (h : CountsAt H0 H D n f) (kd : ∀ kvs, H D = some (.dK kvs) → H' D = some (.dK kvs)) (kl : ∀ b xs, H0 b = none → H b = some (.lst xs) → H' b = some (.lst xs)) : CountsAt H0 H' D n f := by
  obtain ⟨kvs, h1, h2, h3⟩ := h
  refine ⟨kvs, kd _ h1, h2, fun j => ?_⟩
  rcases h3 j with h | ⟨h, l, k1, k2, k3⟩
  · exact .inl h
  · exact .inr ⟨h, l, k1, k2, kl _ _ k2 k3⟩
def OwnQ (H : Hp) (AL : Addr) (kvs : List (List L2.Key × V)) (pl : Pl) (v : List Int) : Prop := (valV kvs (plKey pl) = none ∧ v = []) ∨ ∃ l, valV kvs (plKey pl) = some (.ref l) ∧ l ≠ AL ∧ H l = some (.lst (v.map V.int))
def optDat : Option Int → PyData
  | none => .none
  | some i => .int i
theorem dp_opt {K : PySem.W.Frag} {H : Hp} : ∀ o : Option Int, Dp K H (optV o) (optDat o)
  | none => .non
  | some i => .int i
theorem ok_opt {n : Nat} : ∀ o : Option Int, okT n (optDat o)
  | none => by cases n <;> exact True.intro
  | some i => by cases n <;> exact True.intro
section
variable {P : Program} {w : World} {K : PySem.W.Frag} {mg : Str → Option Value} {base : Heap}
def sp__law_agree (K : PySem.W.Frag) : Sp := fun vs H Q _ => ∃ (t u m ma p0 a0 D : Addr) (T : Ta) (P : List Pl) (A : List A4) (vm vp va : List V) (hd : List Nat) (s : Int) (st : Nat) (z : Str) (H0 : Hp), vs = [.ref t, .ref m, .ref p0, .ref a0, .int st, .str z, .ref D] ∧ Tape t u H0 ∧ Same H0 H ∧ Tape t u H ∧
  SqT K H m [.int P.length, .ref ma] ∧ SqT K H ma vm ∧ Paired (A4S K H) vm (A.map costA) ∧ H p0 = some (.tup vp) ∧ Paired (PlAt H) vp P ∧ SqT K H a0 va ∧ Paired (A4S K H) va A ∧ T.Ok ∧ IsPs T P ∧ IsAs T P A ∧ StOk T hd s ∧ P[st]? = some (startP T hd s) ∧ textD (.str z) = true ∧ z.length ≤ 9 ∧ P.length ≤ 1000 ∧ A.length ≤ 5000 ∧ (∀ p ∈ P, lowS p.u) ∧ OwnAt H0 H D T hd s (cl z) ∧
  ∀ H', Drawn2 t u H H' → Q (.bl true) H'
theorem ok__law_agree (T : Tx K mg) : FnOk P w K mg base CX0 7 T.f__law_agree T.d__law_agree ["tape", "machine", "places", "arcs", "start", "text", "own"] (sp__law_agree K) := by
  refine T.F__law_agree.ok sc__law_agree (fun vs H Q E h => ?_) (fun cdv A outer s H vs Q E hr h => ?_)
  · obtain ⟨t, u, m, ma, p0, a0, D, Ta, Ps, A, vm, vp, va, hd, s0, st, z, H0, rfl, _⟩ := h; rfl
  · obtain ⟨t, u, m, ma, p0, a0, D, Ta, Ps, A, vm, vp, va, hd, s0, st, z, H0, rfl, hT0, s00, hT, hm, hma, hvm, hp0, hP, ha0, hva, ok, ips, ias, so, hst, tz, lz, lP, lA, low, ow, q⟩ := h
    refine ⟨_, (pss_cons (ps_set (i := 7) sc__law_agree.nd rfl (Or.inl rfl) (pe_call (ok__law_walk T) (hr.mono (by decide)) rfl T.g__law_walk T.F__law_walk.kp T.b__law_walk .nil pass0 (pa_cons (pv 3) (pa_cons (pv 4) (pa_cons (pv 5) pa_nil)))))
    (pss_cons (ps_lock (ps_for PassesOwn.never rfl (pi_keys (pv 6)) (pg_name (i := 8) sc__law_agree.nd rfl (Or.inl rfl))
    (pss_one (ps_if (pt_cmpR (op_notInDT (hu65 hr)) (pv 8) (pv 2) (by rfl)) (pss_one (ps_ret pe_bl)) pss_nil))))
    (pss_cons (ps_set (i := 9) sc__law_agree.nd rfl (Or.inl rfl) (pe_lst (pa_cons (pe_call (ok__law_pick T) (hr.mono (by decide)) rfl T.g__law_pick T.F__law_pick.kp T.b__law_pick .nil pass0 (pa_cons (pv 0) (pa_cons (pe_callB call_len_seq (by rfl) T.n_len (by decide +kernel) (pa_cons (pv 2) pa_nil)) pa_nil))) pa_nil)))
    (pss_cons (ps_for PassesOwn.never rfl (pi_range1 rfl T.n_range (pa_cons (pe_callB call_len_seq (by rfl) T.n_len (by decide +kernel) (pa_cons (pv 2) pa_nil)) pa_nil)) (pg_name (i := 10) sc__law_agree.nd rfl (Or.inl rfl))
    (pss_cons (ps_set (i := 11) sc__law_agree.nd rfl (Or.inl rfl) (pe_dget2 (hu_of hr) (pv 6) (pe_ix ix_tup (pv 2) (pv 10) (fun _ _ => rfl)) (pe_lst pa_nil) ⟨rfl, rfl, rfl, rfl⟩))
    (pss_cons (ps_if (pt_cmpR (op_neD (Nat.lt_of_succ_lt (hu65 hr))) (pe_dget2 (hu_of hr) (pv 7) (pv 10) (pe_lst pa_nil) ⟨rfl, rfl, rfl, rfl⟩) (pv 11) (nomark _)) (pss_one (ps_ret pe_bl)) pss_nil)
    (pss_one (ps_if (PW.pt (pw_and (pt_truth (pv 11) (fun _ => rfl)) (pw_and1 (pt_cmpR op_lt (pe_callB call_len_seq (by rfl) T.n_len (by decide +kernel) (pa_cons (pv 9) pa_nil)) pe_int (nomark _))))) (pss_one (ps_expr (pe_bm PySem.F.plainAttrs_list PySem.F.slot_list_append PySem.F.type_list_append mt_append (pv 9) (pa_cons (pv 10) pa_nil)))) pss_nil)))))
    (pss_cons (ps_for PassesOwn.never rfl (pi_list (pv 9)) (pg_name (i := 10) sc__law_agree.nd rfl (Or.inl rfl))
    (pss_cons (ps_set (i := 12) sc__law_agree.nd rfl (Or.inl rfl) pe_non)
    (pss_cons (ps_for PassesOwn.never rfl (pi_range1 rfl T.n_range (pa_cons (pe_callB call_len_seq (by rfl) T.n_len (by decide +kernel) (pa_cons (pe_dget2 (hu_of hr) (pv 6) (pe_ix ix_tup (pv 2) (pv 10) (fun _ _ => rfl)) (pe_lst pa_nil) ⟨rfl, rfl, rfl, rfl⟩) pa_nil)) pa_nil)) (pg_name (i := 13) sc__law_agree.nd rfl (Or.inl rfl))
    (pss_one (ps_if (PW.pt (pw_and (pt_cmpR op_isN (pv 12) pe_non (nomark _)) (pw_and1 (pt_cmpR op_gt (pe_ix ix_list (pe_dget (hu_of hr) (pv 6) (pe_ix ix_tup (pv 2) (pv 10) (fun _ _ => rfl)) (fun _ _ => rfl)) (pv 13) (fun _ _ => rfl)) pe_int (nomark _))))) (pss_one (ps_set (i := 12) sc__law_agree.nd rfl (Or.inl rfl) (pv 13))) pss_nil)))
    (pss_cons (ps_if (pt_not (pt_val (pe_call (ok__law_same T 5) hr rfl T.g__law_same T.F__law_same.kp T.b__law_same .nil pass0 (pa_cons (pe_call (ok_text_price T) (hr.mono (by decide)) rfl T.g_text_price T.F_text_price.kp T.b_text_price .nil passL (pa_cons (pv 1) (pa_cons (pv 4) (pa_cons (pv 10) (pa_cons (pv 5) pa_nil))))) (pa_cons (pv 12) pa_nil))))) (pss_one (ps_ret pe_bl)) pss_nil)
    (pss_cons (ps_set (i := 14) sc__law_agree.nd rfl (Or.inl rfl) (pe_ifExp (pt_cmpR op_eq (pv 10) (pe_ix ix_list (pv 9) (pe_un un_neg pe_int) (fun _ _ => rfl)) (nomark _)) (pe_callKw (ok_text_price T) (hr.mono (by decide)) rfl T.g_text_price T.F_text_price.kp T.k_text_price (fun _ => passLA) (pk_cons (pv 5) (pk_cons (pv 10) (pk_cons (pv 4) (pk_cons (pv 1) pk_nil))))) (pv 12)))
    (pss_one (ps_if (pt_not (pt_val (pe_call (ok__law_same T 5) hr rfl T.g__law_same T.F__law_same.kp T.b__law_same .nil pass0 (pa_cons (pv 14) (pa_cons (pv 12) pa_nil))))) (pss_one (ps_ret pe_bl)) pss_nil)))))))
    (pss_one (ps_ret pe_bl))))))), ?_⟩
    have stlt := (List.getElem?_eq_some_iff.mp hst).1
    have reach0 : Reach Ta (startP Ta hd s0) := (ips.mem _).mp (List.mem_of_getElem? hst)
    have lvp : vp.length = Ps.length := Paired.length hP
    refine ⟨.ref a0, rfl, .int (st : Nat), rfl, .str z, rfl, a0, st, z, va, A, rfl, ha0, hva, lA, lz, fun W H1 s1 nW cW => ?_⟩
    obtain ⟨kvs, N, nD, hD, ek, ndN, lN, inN, notN⟩ := ow
    have hD1 := s1 _ _ hD
    refine ⟨D, _, hD1, True.intro, fun od => ?_⟩
    have sF : ∀ b, b ≠ D → (upd H1 D (.frz od (.dT kvs))) b = H1 b := fun b ne => upd_ne ne
    generalize hHF : upd H1 D (.frz od (.dT kvs)) = HF at sF
    have hF : HF D = some (.frz od (.dT kvs)) := by rw [← hHF]; exact upd_same
    refine ⟨.ref D, rfl, D, od, rfl, .inr ⟨_, hF, ?_⟩⟩
    have p0D : p0 ≠ D := fun e => by rw [e, hD] at hp0; cases hp0
    refine for_it (walk_keysT (d := D) (o := od) (kvs := kvs)) (fun i σ H' => H' = HF ∧ ∃ y8, σ = [some (.ref t), some (.ref m), some (.ref p0), some (.ref a0), some (.int (st : Nat)), some (.str z), some (.ref D), some (.ref W), y8, none, none, none, none, none, none]) ⟨rfl, none, rfl⟩ (fun i σ H' _ h => by rw [h.1]; exact hF) ?_ ?_
    · rintro i x σ H2 H3 lt ⟨rfl, y8, rfl⟩ ⟨rfl, k, v, r, ekv, rfl, hr⟩
      have lkv : kvs.length = N.length := by have := congrArg List.length ek; rw [List.length_map, List.length_map] at this; exact this
      have eN : N[i]? = some (N[i]'(by omega)) := List.getElem?_eq_getElem _
      generalize N[i]'(by omega) = pl at eN
      have e1 : (kvs.map (·.1))[i]? = (N.map plKey)[i]? := by rw [ek]
      rw [List.getElem?_map, List.getElem?_map, ekv, eN] at e1
      have e1 : k = plKey pl := Option.some.inj e1
      subst e1
      obtain ⟨l, R, _, _, _, Rne, _, memR, _⟩ := inN pl (List.mem_of_getElem? eN)
      have inP : pl ∈ Ps := by
        obtain ⟨r0, hr0⟩ : ∃ r0, r0 ∈ R := by
          cases R with
          | nil => exact absurd rfl Rne
          | cons r R => exact ⟨r, List.mem_cons_self⟩
        exact (ips.mem _).mpr (path_reach ((path_own ok so _ rfl).mpr ((memR r0).mp hr0)) reach0)
      have hP3 : Paired (PlAt H3) vp Ps := by
        refine pls_keep (fun b xs e => ?_) hP
        rw [sF b (fun e2 => by rw [e2, hD] at e; cases e)]
        exact s1 _ _ e
      have hp03 : H3 p0 = some (.tup vp) := by rw [sF p0 p0D]; exact s1 _ _ hp0
      refine ⟨.ref r, rfl, .ref p0, rfl, plD pl, Ps.map plD, .tup (.inl (.inl hr)) (.cons (.int _) (.cons (.int _) (.cons (.str _) .nil))), .tup (.inl (.inl hp03)) (pls_data hP3), shaped_pl (low pl inP), shaped_tpls low, _, rfl, ?_⟩
      rw [any_pl, decide_eq_true inP]
      exact if_ff ⟨rfl, _, rfl⟩
    · rintro σ H2 ⟨rfl, y8, rfl⟩
      refine ⟨hF, ?_⟩
      have eU : upd H2 D (.dT kvs) = H1 := by
        funext b
        by_cases e : b = D
        · rw [e, upd_same, hD1]
        · rw [upd_ne e, sF b e]
      rw [eU]
      obtain ⟨tW, uW⟩ := hT.ne nW
      obtain ⟨tD, uD⟩ := hT0.ne nD
      have hT1 : Tape t u H1 := ((Drawn2.refl hT).same s1).2
      have hp01 := s1 _ _ hp0
      have d1 : Drawn2 t u H H1 := (Drawn2.refl hT).same s1
      refine ⟨.ref t, rfl, .ref p0, rfl, p0, _, rfl, .inr (.inl (.inl hp01)), t, u, (vp.length : Nat), rfl, hT1, by omega, by omega, fun r1 H4 r10 r11 d4 => ⟨small' (by simp), fun AL nAL => ?_⟩⟩
      have sA := same_new (o := .lst [V.int r1]) nAL
      have hA0 : (upd H4 AL (.lst [V.int r1])) AL = some (.lst ([r1.toNat].map fun q => V.int (q : Nat))) := by
        rw [upd_same]
        show some (HO.lst [V.int r1]) = some (HO.lst [V.int ((r1.toNat : Nat) : Int)])
        rw [show ((r1.toNat : Nat) : Int) = r1 by omega]
      have dA : Drawn2 t u H (upd H4 AL (.lst [V.int r1])) := (d1.trans d4).same sA
      have d14 : Drawn2 t u H1 (upd H4 AL (.lst [V.int r1])) := d4.same sA
      have nAH : H AL = none := (d1.trans d4).back nAL
      have nA1 : H1 AL = none := d4.back nAL
      generalize upd H4 AL (.lst [V.int r1]) = H5 at sA hA0 dA d14 ⊢
      have WAL : W ≠ AL := fun e => by
        obtain ⟨kw, w1, _⟩ := cW
        rw [e, nA1] at w1; cases w1
      have DAL : D ≠ AL := fun e => by rw [e, nA1] at hD1; cases hD1
      have hT5 := dA.2
      obtain ⟨tAL, uAL⟩ : t ≠ AL ∧ u ≠ AL := hT.ne nAH
      have tup5 : ∀ b xs, H b = some (.tup xs) → H5 b = some (.tup xs) := fun b xs e => tup_drawn hT dA e
      have hD5 : H5 D = some (.dT kvs) := d14.1 _ _ tD.symm uD.symm hD1
      have kp1 : ∀ (H' : Hp), (∀ b o, b ≠ AL → H5 b = some o → H' b = some o) → ∀ b o, b ≠ t → b ≠ u → H1 b = some o → H' b = some o := fun H' k b o x y e => k b o (fun e2 => by rw [e2, nA1] at e; cases e) (d14.1 b o x y e)
      have cWk : ∀ (H' : Hp), (∀ b o, b ≠ AL → H5 b = some o → H' b = some o) → CountsAt H H' W 5001 (wayR A st (cl z).reverse) := fun H' k => cW.keep2 (fun kv e => kp1 H' k _ _ tW.symm uW.symm e) (fun b xs n e => by
        obtain ⟨x, y⟩ := hT.ne n
        exact kp1 H' k _ _ x.symm y.symm e)
      have sqT5 : ∀ a xs, SqT K H a xs → SqT K H5 a xs := fun a xs h => by
        rcases h with (h | ⟨o, h⟩) | h
        · exact .inl (.inl (tup5 _ _ h))
        · refine .inl (.inr ⟨o, dA.1 _ _ (fun e => ?_) (fun e => ?_) h⟩)
          · obtain ⟨_, _, _, _, _, _, _, _, q1, _⟩ := hT
            rw [e, q1] at h; cases h
          · obtain ⟨_, _, _, _, _, _, _, _, _, q1⟩ := hT
            rw [e, q1] at h; cases h
        · exact .inr h
      have ownQ : ∀ (q : Nat) (pl : Pl), Ps[q]? = some pl → OwnQ H5 AL kvs pl (vecR (wayR A st (cl z).reverse q)) := fun q pl eq => by
        by_cases c : pl ∈ N
        · obtain ⟨l, R, k1, k2, k3, k4, k5, k6, k7⟩ := inN pl c
          obtain ⟨x, y⟩ := hT0.ne k2
          have h1 := s1 _ _ k3
          refine .inr ⟨l, k1, (fun e => by rw [e, nA1] at h1; cases h1), ?_⟩
          rw [way_own ok ips ias so hst eq k5 k6]
          exact d14.1 _ _ x.symm y.symm h1
        · refine .inl ⟨none_of_isSome ((keys_none ek).trans (decide_eq_false c)), ?_⟩
          exact way_own ok ips ias so hst eq (R := []) List.nodup_nil fun r => ⟨fun h => (by cases h), fun h => absurd h (notN pl c r)⟩
      have vlen : ∀ q, (vecR (wayR A st (cl z).reverse q)).length ≤ 10 := fun q => by
        have := vec_le (R := wayR A st (cl z).reverse q) (n := 9) fun r hr => by
          have h1 := way_len A st _ q r hr
          rw [List.length_reverse, glen] at h1
          omega
        exact this
      refine ⟨.ref p0, rfl, p0, _, rfl, .inr (.inl (.inl (tup5 _ _ hp0))), (vp.length : Nat), rfl, by omega, by omega, ?_⟩
      refine for_range0 (n := ((vp.length : Nat) : Int).toNat) (fun i σ H' => ∃ (qs : List Nat) (y10 y11 : Option V), σ = [some (.ref t), some (.ref m), some (.ref p0), some (.ref a0), some (.int (st : Nat)), some (.str z), some (.ref D), some (.ref W), y8, some (.ref AL), y10, y11, none, none, none] ∧ (∀ b o, b ≠ AL → H5 b = some o → H' b = some o) ∧ H' AL = some (.lst (qs.map fun q => V.int (q : Nat))) ∧ qs ≠ [] ∧ (∀ q ∈ qs, q < Ps.length) ∧ qs.length ≤ 1 + i)
        ⟨[r1.toNat], none, none, rfl, fun b o _ e => e, hA0, by simp, fun q hq => by rw [List.mem_singleton.mp hq]; omega, Nat.le_refl _⟩ (fun i σ H' lt h => ?_) (fun σ H' h => ?_)
      · obtain ⟨qs, y10, y11, rfl, k6, hA6, qne, qlt, ql⟩ := h
        rw [Int.toNat_natCast, lvp] at lt
        have epl : Ps[i]? = some Ps[i] := List.getElem?_eq_getElem lt
        generalize Ps[i] = pl at epl
        have evp : vp[i]? = some (vp[i]'(by omega)) := List.getElem?_eq_getElem _
        generalize vp[i]'(by omega) = xv at evp
        obtain ⟨r, rfl, hr⟩ := pls_get hP evp epl
        have hr5 := tup5 _ _ hr
        have rA : r ≠ AL := fun e => by rw [e, nAH] at hr; cases hr
        have p0A : p0 ≠ AL := fun e => by rw [e, nAH] at hp0; cases hp0
        have hD6 := k6 _ _ DAL hD5
        have hp06 := k6 _ _ p0A (tup5 _ _ hp0)
        have hr6 := k6 _ _ rA hr5
        have at1 : atI vp (i : Int) = some (.ref r) := atI_nat evp
        refine ⟨.ref D, rfl, D, rfl, .inr ⟨_, .inl hD6⟩, .ref p0, rfl, .int (i : Nat), rfl, p0, vp, (i : Nat), .ref r, rfl, rfl, .inl (.inl hp06), at1, Nat.zero_le _, fun E0 nE0 => ?_⟩
        have sE := same_new (o := .lst []) nE0
        have hE : (upd H' E0 (.lst [])) E0 = some (.lst []) := upd_same
        have E0A : E0 ≠ AL := fun e => by rw [e, hA6] at nE0; cases nE0
        have g := DGet.t (k := plKey pl) (sE _ _ hD6) (sE _ _ hr6)
        obtain ⟨Lx, hLx, eLx⟩ : ∃ Lx, (upd H' E0 (.lst [])) Lx = some (.lst ((vecR (wayR A st (cl z).reverse i)).map V.int)) ∧ (valV kvs (plKey pl)).getD (.ref E0) = .ref Lx := by
          by_cases c : pl ∈ N
          · obtain ⟨l, R, k1, k2, k3, k4, k5, kk6, k7⟩ := inN pl c
            obtain ⟨x, y⟩ := hT0.ne k2
            refine ⟨l, ?_, by rw [k1]; rfl⟩
            rw [way_own ok ips ias so hst epl k5 kk6]
            have h1 := s1 _ _ k3
            exact sE _ _ (k6 _ _ (fun e => by rw [e, nA1] at h1; cases h1) (d14.1 _ _ x.symm y.symm h1))
          · refine ⟨E0, ?_, by rw [none_of_isSome ((keys_none ek).trans (decide_eq_false c))]; rfl⟩
            rw [way_own ok ips ias so hst epl (R := []) List.nodup_nil fun r => ⟨fun h => (by cases h), fun h => absurd h (notN pl c r)⟩]
            exact hE
        have cW6 := cWk (upd H' E0 (.lst [])) (fun b o ne e => sE _ _ (k6 _ _ ne e))
        have k7 : ∀ b o, b ≠ AL → H5 b = some o → (upd H' E0 (.lst [])) b = some o := fun b o ne e => sE _ _ (k6 _ _ ne e)
        have hA7 := sE _ _ hA6
        generalize upd H' E0 (.lst []) = H7 at sE hE g hLx cW6 k7 hA7 ⊢
        refine ⟨_, g, ?_⟩
        rw [eLx]
        obtain ⟨kw, w1, w2, w3⟩ := cW6
        refine ⟨.ref W, rfl, W, rfl, .inl ⟨_, .inl w1⟩, .int (i : Nat), rfl, Nat.zero_le _, fun E1 nE1 => ?_⟩
        have sE1 := same_new (o := .lst []) nE1
        have hE1 : (upd H7 E1 (.lst [])) E1 = some (.lst []) := upd_same
        have g1 := DGet.k (k := Sum.inl (i : Int)) (sE1 _ _ w1)
        obtain ⟨Ly, hLy, eLy⟩ : ∃ Ly, (upd H7 E1 (.lst [])) Ly = some (.lst ((vecR (wayR A st (cl z).reverse i)).map V.int)) ∧ (valV kw (.inl (i : Int))).getD (.ref E1) = .ref Ly := by
          rcases w3 i with ⟨x1, x2⟩ | ⟨x1, l, x2, _, x3⟩
          · exact ⟨E1, by rw [x1]; exact hE1, by rw [x2]; rfl⟩
          · exact ⟨l, sE1 _ _ x3, by rw [x2]; rfl⟩
        have k8 : ∀ b o, b ≠ AL → H5 b = some o → (upd H7 E1 (.lst [])) b = some o := fun b o ne e => sE1 _ _ (k7 _ _ ne e)
        have hA8 := sE1 _ _ hA7
        have hLx8 := sE1 _ _ hLx
        generalize upd H7 E1 (.lst []) = H8 at sE1 g1 hLy k8 hA8 hLx8 ⊢
        refine ⟨_, g1, ?_⟩
        rw [eLy]
        have vl := vlen i
        generalize vecR (wayR A st (cl z).reverse i) = v at hLx8 hLy vl
        refine ⟨.ref Lx, rfl, .list (v.map PyData.int), .list (v.map PyData.int), .lst (.inl (.inl hLy)) (dp_intL v), .lst (.inl (.inl hLx8)) (dp_intL v), shaped_ints v, shaped_ints v, false, by rw [eqv_ints]; rfl, ?_⟩
        refine if_ff ?_
        cases v with
        | nil =>
          refine ⟨.ref Lx, rfl, false, .inl ⟨_, .inl (.inl hLx8), rfl⟩, ?_⟩
          exact if_ff (if_ff ⟨qs, _, _, rfl, k8, hA8, qne, qlt, by omega⟩)
        | cons v0 vr =>
          refine ⟨.ref Lx, rfl, true, .inl ⟨_, .inl (.inl hLx8), rfl⟩, ?_⟩
          refine if_tt ⟨.ref AL, rfl, AL, _, rfl, .inl (.inl (.inl hA8)), _, _, rfl, rfl, _, rfl, ite2 (fun y => ?_) (fun y => ?_)⟩
          · refine ⟨.ref AL, rfl, .inl ⟨rfl, _, .inl (.inl hA8)⟩, .int (i : Nat), rfl, AL, _, _, rfl, rfl, hA8, big (by rw [List.length_map]; omega), qs ++ [i], _, _, rfl, fun b o ne e => by rw [upd_ne ne]; exact k8 _ _ ne e, by rw [upd_same, List.map_append]; rfl, by simp, fun q hq => ?_, by rw [List.length_append, List.length_singleton]; omega⟩
            rcases List.mem_append.mp hq with hq | hq
            · exact qlt q hq
            · rw [List.mem_singleton.mp hq]; exact lt
          · exact ⟨qs, _, _, rfl, k8, hA8, qne, qlt, by omega⟩
      · obtain ⟨qs, y10, y11, rfl, k6, hA6, qne, qlt, ql⟩ := h
        obtain ⟨qs', lastq, eqs⟩ := snoc_split qne
        have p0A : p0 ≠ AL := fun e => by rw [e, nAH] at hp0; cases hp0
        have hD6 := k6 _ _ DAL hD5
        have hp06 := k6 _ _ p0A (tup5 _ _ hp0)
        have sq6 : ∀ a xs, SqT K H a xs → SqT K H' a xs := fun a xs h => by
          rcases sqT5 a xs h with (h2 | ⟨o, h2⟩) | h2
          · refine .inl (.inl (k6 _ _ (fun e => ?_) h2))
            rcases h with (h3 | ⟨o, h3⟩) | h3
            · rw [e, nAH] at h3; cases h3
            · rw [e, nAH] at h3; cases h3
            · rw [e, hA0] at h2; cases h2
          · refine .inl (.inr ⟨o, k6 _ _ (fun e => ?_) h2⟩)
            rw [e, hA0] at h2; cases h2
          · exact .inr h2
        have a4s6 : ∀ {vs : List V} {as : List A4}, Paired (A4S K H) vs as → Paired (A4S K H') vs as := by
          intro vs as h
          induction h with
          | nil => exact .nil
          | cons h t ih =>
            obtain ⟨q1, e1, h1⟩ := h
            exact .cons ⟨q1, e1, sq6 _ _ h1⟩ ih
        have dr6 : Drawn2 t u H H' := by
          refine ⟨fun b o x y e => k6 _ _ (fun e2 => by rw [e2, nAH] at e; cases e) (dA.1 _ _ x y e), ?_⟩
          obtain ⟨tu, ns, cc, sd, x1, x2, x3, x4, x5, x6⟩ := hT5
          exact ⟨tu, ns, cc, sd, x1, x2, x3, x4, k6 _ _ tAL x5, k6 _ _ uAL x6⟩
        refine ⟨.ref AL, rfl, AL, rfl, ⟨_, .inl (.inl hA6)⟩, ?_⟩
        refine for_list (K := K) (a := AL) (xs := qs.map fun q => V.int (q : Nat)) (fun i σ H9 => ∃ (y10 y12 y13 y14 : Option V), σ = [some (.ref t), some (.ref m), some (.ref p0), some (.ref a0), some (.int (st : Nat)), some (.str z), some (.ref D), some (.ref W), y8, some (.ref AL), y10, y11, y12, y13, y14] ∧ Same H' H9)
          ⟨_, none, none, none, rfl, Same.refl H'⟩ (fun i σ H9 _ h => ?_) (fun i x σ H9 ex h => ?_) (fun σ H9 h => ?_)
        · obtain ⟨_, _, _, _, _, s9⟩ := h
          exact .inl (.inl (s9 _ _ hA6))
        · obtain ⟨y10, y12, y13, y14, rfl, s9⟩ := h
          obtain ⟨qn, eqn, rfl⟩ : ∃ qn, qs[i]? = some qn ∧ V.int (qn : Nat) = x := by
            rw [List.getElem?_map] at ex
            cases e : qs[i]? with
            | none => rw [e] at ex; cases ex
            | some qn => rw [e] at ex; exact ⟨qn, rfl, Option.some.inj ex⟩
          have lt := qlt qn (List.mem_of_getElem? eqn)
          have epl : Ps[qn]? = some Ps[qn] := List.getElem?_eq_getElem lt
          generalize Ps[qn] = pl at epl
          have evp : vp[qn]? = some (vp[qn]'(by omega)) := List.getElem?_eq_getElem _
          generalize vp[qn]'(by omega) = xv at evp
          obtain ⟨r, rfl, hr⟩ := pls_get hP evp epl
          have rA : r ≠ AL := fun e => by rw [e, nAH] at hr; cases hr
          have hr6 := k6 _ _ rA (tup5 _ _ hr)
          have at1 : atI vp (qn : Int) = some (.ref r) := atI_nat evp
          have oq := ownQ qn pl epl
          have vl := vlen qn
          have eo : look (walkB (A.map costA) z.cps.toList [((st : Int), 0)]) (qn : Int) = lstV (vecR (wayR A st (cl z).reverse qn)) (vecR (wayR A st (cl z).reverse qn)).length := by
            have h1 := (walk_min (A := A) (n := Ps.length) (st := st) (fun a ha => by
              obtain ⟨x1, x2, _⟩ := arc_shape ((ias.mem a).mp ha)
              exact ⟨x1, x2⟩) stlt (cl z).reverse).2 qn
            rw [List.reverse_reverse] at h1
            exact min_one h1 (lst_min _)
          generalize vecR (wayR A st (cl z).reverse qn) = v at oq vl eo
          refine ⟨.ref D, rfl, D, rfl, .inr ⟨_, .inl (s9 _ _ hD6)⟩, .ref p0, rfl, .int (qn : Nat), rfl, p0, vp, (qn : Nat), .ref r, rfl, rfl, .inl (.inl (s9 _ _ hp06)), at1, Nat.zero_le _, fun E0 nE0 => ?_⟩
          have sE := same_new (o := .lst []) nE0
          have hE : (upd H9 E0 (.lst [])) E0 = some (.lst []) := upd_same
          have g := DGet.t (k := plKey pl) (sE _ _ (s9 _ _ hD6)) (sE _ _ (s9 _ _ hr6))
          have s10 := s9.trans sE
          obtain ⟨Lx, hLx, eLx⟩ : ∃ Lx, (upd H9 E0 (.lst [])) Lx = some (.lst (v.map V.int)) ∧ (valV kvs (plKey pl)).getD (.ref E0) = .ref Lx := by
            rcases oq with ⟨x1, x2⟩ | ⟨l, x1, x2, x3⟩
            · exact ⟨E0, by rw [x2]; exact hE, by rw [x1]; rfl⟩
            · exact ⟨l, s10 _ _ (k6 _ _ x2 x3), by rw [x1]; rfl⟩
          generalize upd H9 E0 (.lst []) = H10 at sE hE g s10 hLx ⊢
          refine ⟨_, g, ?_⟩
          rw [eLx]
          refine ⟨Lx, _, rfl, .inl (.inl (.inl hLx)), (v.length : Nat), by rw [List.length_map], by omega, by omega, ?_⟩
          refine for_range0 (n := ((v.length : Nat) : Int).toNat) (fun k σ H11 => ∃ (y13 : Option V), σ = [some (.ref t), some (.ref m), some (.ref p0), some (.ref a0), some (.int (st : Nat)), some (.str z), some (.ref D), some (.ref W), y8, some (.ref AL), some (.int (qn : Nat)), y11, some (optV (lstV v k)), y13, y14] ∧ Same H' H11)
            ⟨y13, rfl, s10⟩ (fun k σ H11 ltk h => ?_) (fun σ H11 h => ?_)
          · obtain ⟨y13, rfl, s11⟩ := h
            rw [Int.toNat_natCast] at ltk
            have step : lstV v (k + 1) = match lstV v k with
              | some k => some k
              | none => if 0 < v.getD k 0 then some (k : Int) else none := rfl
            cases el : lstV v k with
            | some c =>
              rw [el] at step
              refine ⟨.int c, rfl, rfl, _, rfl, if_ff (if_ff ⟨some (.int (k : Nat)), ?_, s11⟩)⟩
              rw [step]
              rfl
            | none =>
              rw [el] at step
              rcases oq with ⟨x1, x2⟩ | ⟨l, x1, x2, x3⟩
              · rw [x2] at ltk; cases ltk
              have hl11 := s11 _ _ (k6 _ _ x2 x3)
              have g2 := DGet.t (k := plKey pl) (s11 _ _ hD6) (s11 _ _ hr6)
              rw [x1] at g2
              have ev : v[k]? = some v[k] := List.getElem?_eq_getElem ltk
              have eg : v.getD k 0 = v[k] := by rw [List.getD_eq_getElem?_getD, ev]; rfl
              refine ⟨.non, rfl, rfl, _, rfl, if_tt ?_⟩
              refine ⟨.ref D, rfl, .ref p0, rfl, .int (qn : Nat), rfl, p0, vp, (qn : Nat), .ref r, rfl, rfl, .inl (.inl (s11 _ _ hp06)), at1, D, .ref l, rfl, g2, .int (k : Nat), rfl, l, _, (k : Nat), .int v[k], rfl, rfl, .inl (.inl hl11), atI_nat (by rw [List.getElem?_map, ev]; rfl), _, _, rfl, rfl, _, rfl, ite2 (fun y => ?_) (fun y => ?_)⟩
              · refine ⟨.int (k : Nat), rfl, some (.int (k : Nat)), ?_, s11⟩
                rw [step]
                dsimp only
                rw [if_pos (by rw [eg]; exact of_decide_eq_true y)]
                rfl
              · refine ⟨some (.int (k : Nat)), ?_, s11⟩
                rw [step]
                dsimp only
                rw [if_neg (by rw [eg]; exact fun h => y (decide_eq_true h))]
                rfl
          · obtain ⟨y13, rfl, s11⟩ := h
            rw [Int.toNat_natCast]
            have ja : ∀ a ∈ A.map costA, a.j < Ps.length := fun a ha => by
              obtain ⟨b, hb, rfl⟩ := List.mem_map.mp ha
              exact (arc_shape ((ias.mem b).mp hb)).2.1
            have lc : (A.map costA).length ≤ 5000 := by rw [List.length_map]; exact lA
            have hm6 := sq6 _ _ hm
            have hma6 := sq6 _ _ hma
            have hvm6 := a4s6 hvm
            refine ⟨.ref m, rfl, .int (st : Nat), rfl, .int (qn : Nat), rfl, .str z, rfl, ?_⟩
            refine ⟨m, ma, Ps.length, (st : Nat), (qn : Nat), z, vm, A.map costA, rfl, seqT_grow s11 hm6, seqT_grow s11 hma6, a4s_grow s11 hvm6, by omega, by omega, by omega, by omega, tz, by omega, lP, lc, ja, fun H13 s13 => ?_⟩
            rw [eo]
            generalize lstV v v.length = oo at eo
            refine ⟨optV oo, rfl, optV oo, optV oo, optDat oo, rfl, dp_opt oo, dp_opt oo, ok_opt oo, fun H14 s14 => ⟨true, rfl, if_ff ?_⟩⟩
            have s1114 := (s11.trans s13).trans s14
            have eL : atI (qs.map fun q => V.int (q : Nat)) (-1) = some (V.int (lastq : Nat)) := by
              rw [eqs, List.map_append]
              exact atI_last _ _
            refine ⟨.int (qn : Nat), rfl, .ref AL, rfl, 1, rfl, AL, _, -1, .int (lastq : Nat), rfl, rfl, .inl (.inl (s1114 _ _ hA6)), eL, rfl, _, rfl, ite2 (fun y => ?_) (fun y => ?_)⟩
            · refine ⟨.str z, rfl, .int (qn : Nat), rfl, .int (st : Nat), rfl, .ref m, rfl, ?_⟩
              refine ⟨rfl, m, ma, Ps.length, (st : Nat), (qn : Nat), z, vm, A.map costA, rfl, seqT_grow s1114 hm6, seqT_grow s1114 hma6, a4s_grow s1114 hvm6, by omega, by omega, by omega, by omega, tz, by omega, lP, lc, ja, fun H15 s15 => ?_⟩
              rw [eo]
              refine ⟨optV oo, rfl, optV oo, rfl, optV oo, optV oo, optDat oo, rfl, dp_opt oo, dp_opt oo, ok_opt oo, fun H16 s16 => ⟨true, rfl, if_ff ⟨_, _, _, _, rfl, (s1114.trans s15).trans s16⟩⟩⟩
            · refine ⟨optV oo, rfl, optV oo, rfl, optV oo, rfl, optV oo, optV oo, optDat oo, rfl, dp_opt oo, dp_opt oo, ok_opt oo, fun H16 s16 => ⟨true, rfl, if_ff ⟨_, _, _, _, rfl, s1114.trans s16⟩⟩⟩
        · obtain ⟨y10, y12, y13, y14, rfl, s9⟩ := h
          exact q _ (dr6.same s9)
end
end K58
set_option Elab.async false
set_option linter.all false
set_option maxRecDepth 100000
set_option maxHeartbeats 2000000
namespace K58
open PySem PySem.Spec PyProof.Rows L2 Ver
theorem sqT_drawn {K : PySem.W.Frag} {t u a : Addr} {xs : List V} {H H' : Hp} (hT : Tape t u H) (d : Drawn2 t u H H') (h : SqT K H a xs) : SqT K H' a xs := by
  rcases h with (h | ⟨o, h⟩) | h
  · exact .inl (.inl (tup_drawn hT d h))
  · refine .inl (.inr ⟨o, d.1 _ _ (fun e => ?_) (fun e => ?_) h⟩)
    · obtain ⟨_, _, _, _, _, _, _, _, q1, _⟩ := hT
      rw [e, q1] at h; cases h
    · obtain ⟨_, _, _, _, _, _, _, _, _, q1⟩ := hT
      rw [e, q1] at h; cases h
  · exact .inr h
theorem a4s_drawn {K : PySem.W.Frag} {t u : Addr} {H H' : Hp} (hT : Tape t u H) (d : Drawn2 t u H H') : ∀ {vs : List V} {as : List A4}, Paired (A4S K H) vs as → Paired (A4S K H') vs as
  | _, _, .nil => .nil
  | _, _, .cons ⟨q, h1, h2⟩ r => .cons ⟨q, h1, sqT_drawn hT d h2⟩ (a4s_drawn hT d r)
theorem bk_drawn {K : PySem.W.Frag} {t u a : Addr} {B : Bk} {H H' : Hp} (hT : Tape t u H) (d : Drawn2 t u H H') (h : BkAt K H a B) : BkAt K H' a B := by
  obtain ⟨f, x, tv, h1, h2, h3, h4⟩ := h
  exact ⟨f, x, tv, sqT_drawn hT d h1, sqT_drawn hT d h2, sqT_drawn hT d h3, rows_drawn hT d h4⟩
theorem sp_drawn {t u : Addr} {v : V} {T : Ta} {P : List Pl} {A : List A4} {H H' : Hp} (hT : Tape t u H) (d : Drawn2 t u H H') (h : SpAt H v T P A) : SpAt H' v T P A := by
  obtain ⟨q, p, f, a, vp, va, h1, h2, h3, h4, h5, h6, h7⟩ := h
  exact ⟨q, p, f, a, vp, va, h1, tup_drawn hT d h2, tup_drawn hT d h3, pls_keep (fun b xs e => tup_drawn hT d e) h4, tup_drawn hT d h5, tup_drawn hT d h6, a4_keep (fun b xs e => tup_drawn hT d e) h7⟩
theorem run_m1 {tab : List (List Int)} : ∀ {r : List Int} {s : Int}, 0 ≤ s → runG tab s r < 0 → runG tab s r = -1
  | [], s, h0, h => absurd h0 (by have h : s < 0 := h; omega)
  | t :: r, s, h0, h => by
    have h : (if cellG tab s t < 0 then -1 else runG tab (cellG tab s t) r) < 0 := h
    show (if cellG tab s t < 0 then -1 else runG tab (cellG tab s t) r) = -1
    by_cases c : cellG tab s t < 0
    · rw [if_pos c]
    · rw [if_neg c] at h ⊢
      exact run_m1 (by omega) h
theorem run_neg {tab : List (List Int)} {r : List Int} {s t : Int} (h0 : 0 ≤ s) (h : runG tab s r < 0) : runG tab s (r ++ [t]) = -1 := by
  by_cases c : 0 ≤ runG tab s (r ++ [t])
  · have := run_pre h0 c
    omega
  · exact run_m1 h0 (by omega)
theorem mode_eq2 (hl : Bool) : decide (V.str (modeS hl) = V.str "healed") = hl := by cases hl <;> decide
theorem rowS_snoc {ts : List Str} {r : List Int} {t : Int} {z : Str} (h0 : 0 ≤ t) (h : ts[t.toNat]? = some z) : rowS ts (r ++ [t]) = rowS ts r ++ z := Ver.str_of_list (by
  show rowL ts (r ++ [t]) = cl (rowS ts r ++ z)
  rw [rowL_snoc, tok_get h0 h, cl_app]
  rfl)
theorem place_reach {T : Ta} (ok : T.Ok) {rs : List Int} (hr : InR T rs) (r0 : 0 ≤ runG T.tab 0 rs) {rd : Str} (erd : rd = if T.hl = true then rowS T.ts rs else T.g ++ rowS T.ts rs) (ag : Agree (cl rd) (cl T.g)) : Reach T (startP T (cl rd) (runG T.tab 0 rs)) := by
  have so : StOk T [] 0 := ⟨fun i c d h => by simp at h, Int.le_refl 0, fun _ => .inr ⟨rfl, rfl⟩⟩
  have e0 : startP T [] 0 = ⟨0, 0, ""⟩ := by unfold startP; simp
  have key : OwnWay T [] 0 (cl rd) rs (startP T (cl rd) (runG T.tab 0 rs)) := by
    unfold OwnWay
    rw [List.nil_append]
    refine ⟨ag, ?_, ?_⟩
    · unfold placeI startP
      rw [List.nil_append]
    · by_cases hl : T.hl = true
      · rw [if_neg (fun h => by rw [hl] at h; cases h.1)]
        rw [if_pos hl] at erd
        refine ⟨hr, ?_, rfl, r0, inner_nil ok⟩
        unfold bodyL
        rw [if_pos (.inl hl), erd]
        show rowL T.ts rs ++ [] = rowL T.ts rs
        rw [List.append_nil]
      · rw [if_neg hl] at erd
        have lrd : (cl rd).length = T.g.length + (rowL T.ts rs).length := by
          rw [erd, cl_app, List.length_append, glen]
          rfl
        rw [if_neg (fun h => by have := h.2; omega)]
        refine ⟨hr, ?_, rfl, r0, inner_nil ok⟩
        show rowL T.ts rs ++ [] = _
        unfold bodyL
        rw [List.append_nil]
        by_cases g0 : T.g.length ≤ 0
        · rw [if_pos (.inr g0), erd, cl_app]
          have : cl T.g = [] := List.eq_nil_of_length_eq_zero (by rw [glen]; omega)
          rw [this]
          rfl
        · rw [if_neg (fun h => h.elim (fun h => hl h) (fun h => g0 h)), List.nil_append, erd, cl_app, List.drop_append_of_le_length (by rw [glen]; exact Nat.le_refl _), List.drop_of_length_le (by rw [glen]; exact Nat.le_refl _), List.nil_append]
          rfl
  have := path_reach ((path_own ok so _ rfl).mpr key) (by rw [e0]; exact .start)
  exact this
theorem ints_inj : ∀ {x y : List Int}, x.map PyData.int = y.map PyData.int → x = y
  | [], [], _ => rfl
  | [], _ :: _, h => by cases h
  | _ :: _, [], h => by cases h
  | a :: x, b :: y, h => by
    rw [List.map_cons, List.map_cons] at h
    injection h with h1 h2
    injection h1 with h1
    rw [h1, ints_inj h2]
theorem row_below {n : Nat} : ∀ {r : List Int}, (∀ t ∈ r, 0 ≤ t ∧ t < (n : Int)) → (r.map PyData.int).all (belowD n) = true
  | [], _ => rfl
  | t :: r, h => by
    rw [List.map_cons, List.all_cons, row_below fun y hy => h y (List.mem_cons_of_mem _ hy), Bool.and_true]
    have := h t List.mem_cons_self
    show (decide (0 ≤ t) && decide (t < (n : Int))) = true
    rw [decide_eq_true this.1, decide_eq_true this.2]
    rfl
theorem ok_optD {n : Nat} : ∀ o : Option Pl, okT (n + 2) (optD o)
  | none => True.intro
  | some p => ⟨by show 3 ≤ 100000; decide, fun e he => by
    rcases List.mem_cons.mp he with rfl | he
    · exact True.intro
    · rcases List.mem_cons.mp he with rfl | he
      · exact True.intro
      · rw [List.mem_singleton.mp he]; exact True.intro⟩
theorem abc_textD {z : Str} (h : abcT z) : textD (.str z) = true := by
  show z.cps.toList.all signN = true
  refine List.all_eq_true.mpr fun c hc => ?_
  have := h c hc
  unfold signN
  rw [decide_eq_true (show 32 ≤ c by omega), decide_eq_true (show c ≤ 126 by omega), decide_eq_true (show c ≠ 37 by omega)]
  rfl
theorem place_read {ts : List Str} {tab : List (List Int)} {g : Str} {hl : Bool} {rs : List Int} {rd : Str} (erd : rd = if hl = true then rowS ts rs else g ++ rowS ts rs) :
    placeG ts tab g hl rs = if runG tab 0 rs < 0 then none else if takeS rd (min g.length rd.length) = takeS g (min g.length rd.length) then some ⟨min g.length rd.length, runG tab 0 rs, ""⟩ else none := by
  unfold placeG
  cases hl with
  | true =>
    rw [if_pos rfl] at erd
    rw [if_neg (show ¬ (true = false) by decide), erd]
  | false =>
    rw [if_neg (by decide)] at erd
    rw [if_pos rfl]
    have lrd : rd.length = g.length + (rowS ts rs).length := by rw [erd]; exact Str.length_append _ _
    have em : min g.length rd.length = g.length := by omega
    have et : takeS rd g.length = takeS g g.length := Ver.str_of_list (by
      show (cl rd).take g.length = (cl g).take g.length
      rw [erd, cl_app, ← glen g, List.take_left, List.take_length])
    rw [em, if_pos et]
section
variable {P : Program} {w : World} {K : PySem.W.Frag} {mg : Str → Option Value} {base : Heap}
def sp__law_behind_row (K : PySem.W.Frag) : Sp := fun vs H Q _ => ∃ (t u a b m ma : Addr) (x : V) (T : Ta) (P : List Pl) (A : List A4) (vm : List V) (l : Str), vs = [.ref t, .ref a, .ref b, .str T.g, .str (modeS T.hl), .ref m, x, .str l] ∧ Tape t u H ∧ H a = some (.tup (T.ts.map V.str)) ∧ Toks T.ts ∧ BkAt K H b T.bk ∧ T.Ok ∧ abcT T.g ∧ T.g.length ≤ 9 ∧ abcT l ∧ 1 ≤ l.length ∧ l.length ≤ 3 ∧
  SpAt H x T P A ∧ SqT K H m [.int P.length, .ref ma] ∧ SqT K H ma vm ∧ Paired (A4S K H) vm (A.map costA) ∧ IsPs T P ∧ IsAs T P A ∧ P.length ≤ 1000 ∧ A.length ≤ 5000 ∧ (∀ p ∈ P, lowS p.u) ∧
  ∀ H', Drawn2 t u H H' → Q (.bl true) H'
theorem ok__law_behind_row (T : Tx K mg) : FnOk P w K mg base CX0 8 T.f__law_behind_row T.d__law_behind_row ["tape", "tokens", "book", "begun", "mode", "machine", "told", "letters"] (sp__law_behind_row K) := by
  refine T.F__law_behind_row.ok sc__law_behind_row (fun vs H Q E h => ?_) (fun cdv A outer s H vs Q E hr h => ?_)
  · obtain ⟨t, u, a, b, m, ma, x, Ta, Ps, A, vm, l, rfl, _⟩ := h; rfl
  · obtain ⟨t, u, a, b, m, ma, x, Ta, Ps, A, vm, l, rfl, hT, ha, tk, hb, ok, ag9, lg, al, l1, l3, hsp, hm, hma, hvm, ips, ias, lP, lA, low, q⟩ := h
    refine ⟨_, (pss_cons (ps_set (i := 8) sc__law_behind_row.nd rfl (Or.inl rfl) (pe_lst pa_nil))
    (pss_cons (ps_set (i := 9) sc__law_behind_row.nd rfl (Or.inl rfl) pe_str)
    (pss_cons (ps_set (i := 10) sc__law_behind_row.nd rfl (Or.inl rfl) pe_int)
    (pss_cons (ps_for PassesOwn.never rfl (pi_range1 rfl T.n_range (pa_cons (pe_call (ok__law_pick T) (hr.mono (by decide)) rfl T.g__law_pick T.F__law_pick.kp T.b__law_pick .nil pass0 (pa_cons (pv 0) (pa_cons pe_int pa_nil))) pa_nil)) (pg_name (i := 11) sc__law_behind_row.nd rfl (Or.inl rfl))
    (pss_cons (ps_set (i := 12) sc__law_behind_row.nd rfl (Or.inl rfl) (pe_call (ok__law_pick T) (hr.mono (by decide)) rfl T.g__law_pick T.F__law_pick.kp T.b__law_pick .nil pass0 (pa_cons (pv 0) (pa_cons (pe_callB call_len_seq (by rfl) T.n_len (by decide +kernel) (pa_cons (pv 1) pa_nil)) pa_nil))))
    (pss_cons (ps_expr (pe_bm PySem.F.plainAttrs_list PySem.F.slot_list_append PySem.F.type_list_append mt_append (pv 8) (pa_cons (pv 12) pa_nil)))
    (pss_cons (ps_aug (i := 9) sc__law_behind_row.nd rfl (Or.inl rfl) (pe_ix ix_tup (pv 1) (pv 12) (fun _ _ => rfl)) iop_add_str)
    (pss_one (ps_if (pt_cmpR op_ge (pv 10) pe_int (nomark _)) (pss_one (ps_set (i := 10) sc__law_behind_row.nd rfl (Or.inl rfl) (pe_ix ix_tup (pe_ix ix_tup (pe_ix ix_tup (pv 2) pe_int (fun _ _ => rfl)) (pv 10) (fun _ _ => rfl)) (pv 12) (fun _ _ => rfl)))) pss_nil))))))
    (C8.pss_cut (ps_set (i := 13) sc__law_behind_row.nd rfl (Or.inl rfl) (pe_ifExp (pt_cmpR op_eq (pv 4) pe_str (nomark _)) (pv 9) (pe_op op_add_str (pv 3) (pv 9))))
    (pss_cons (ps_set (i := 14) sc__law_behind_row.nd rfl (Or.inl rfl) (pe_callB (call_min2 rfl) (by rfl) T.n_min (by decide +kernel) (pa_cons (pe_callB call_len_str (by rfl) T.n_len (by decide +kernel) (pa_cons (pv 3) pa_nil)) (pa_cons (pe_callB call_len_str (by rfl) T.n_len (by decide +kernel) (pa_cons (pv 13) pa_nil)) pa_nil))))
    (C8.pss_cut (ps_set (i := 15) sc__law_behind_row.nd rfl (Or.inl rfl) (pe_ifExp (PW.pt (pw_and (pt_cmpR op_ge (pv 10) pe_int (nomark _)) (pw_and1 (pt_cmpR op_eq (pe_slice C8.sl_txt (pv 13) po_none (po_some (pv 14))) (pe_slice C8.sl_txt (pv 3) po_none (po_some (pv 14))) (nomark _))))) (pe_tup (pa_cons (pv 14) (pa_cons (pv 10) (pa_cons pe_str pa_nil)))) pe_non))
    (pss_cons (ps_if (pt_not (pt_val (pe_call (ok__law_same T 5) (hr.mono (by decide)) rfl T.g__law_same T.F__law_same.kp T.b__law_same .nil pass0 (pa_cons (pe_call (ok_place_behind T) (hr.mono (by decide)) rfl T.g_place_behind T.F_place_behind.kp T.b_place_behind .nil passL (pa_cons (pv 1) (pa_cons (pv 2) (pa_cons (pv 3) (pa_cons (pv 4) (pa_cons (pe_callTy call_tuple_of (by rfl) T.n_tuple (by decide +kernel) (pa_cons (pv 8) pa_nil)) pa_nil)))))) (pa_cons (pv 15) pa_nil))))) (pss_one (ps_ret pe_bl)) pss_nil)
    (pss_cons (ps_if (pt_cmpR op_isN (pv 15) pe_non (nomark _)) (pss_one (ps_ret pe_bl)) pss_nil)
    (pss_cons (ps_set (i := 16) sc__law_behind_row.nd rfl (Or.inl rfl) (pe_un un_neg pe_int))
    (pss_cons (ps_for PassesOwn.never rfl (pi_range1 rfl T.n_range (pa_cons (pe_callB call_len_seq (by rfl) T.n_len (by decide +kernel) (pa_cons (pe_ix ix_tup (pv 6) pe_int (fun _ _ => rfl)) pa_nil)) pa_nil)) (pg_name (i := 17) sc__law_behind_row.nd rfl (Or.inl rfl))
    (pss_one (ps_if (pt_cmpR (op_eqD (Nat.lt_of_succ_lt (hu65 hr))) (pe_ix ix_tup (pe_ix ix_tup (pv 6) pe_int (fun _ _ => rfl)) (pv 17) (fun _ _ => rfl)) (pv 15) (nomark _)) (pss_one (ps_set (i := 16) sc__law_behind_row.nd rfl (Or.inl rfl) (pv 17))) pss_nil)))
    (pss_cons (ps_if (pt_cmpR op_lt (pv 16) pe_int (nomark _)) (pss_one (ps_ret pe_bl)) pss_nil)
    (C8.pss_cut (ps_set (i := 18) sc__law_behind_row.nd rfl (Or.inl rfl) (pe_ifExp (pt_cmpR op_eq (pe_call (ok__law_pick T) (hr.mono (by decide)) rfl T.g__law_pick T.F__law_pick.kp T.b__law_pick .nil pass0 (pa_cons (pv 0) (pa_cons pe_int pa_nil))) pe_int (nomark _)) (pe_slice C8.sl_txt (pv 3) (po_some (pe_callB call_len_str (by rfl) T.n_len (by decide +kernel) (pa_cons (pv 13) pa_nil))) po_none) pe_str))
    (pss_cons (ps_set (i := 18) sc__law_behind_row.nd rfl (Or.inl rfl) (pe_call (ok__law_spoilt T) (hr.mono (by decide)) rfl T.g__law_spoilt T.F__law_spoilt.kp T.b__law_spoilt .nil pass0 (pa_cons (pv 0) (pa_cons (pe_slice C8.sl_txt (pe_op op_add_str (pv 18) (pe_call (ok__law_joined T) (hr.mono (by decide)) rfl T.g__law_joined T.F__law_joined.kp T.b__law_joined .nil pass0 (pa_cons (pv 0) (pa_cons (pv 1) (pa_cons pe_int pa_nil))))) po_none (po_some pe_int)) (pa_cons (pv 7) (pa_cons pe_int pa_nil))))))
    (pss_cons (ps_set (i := 19) sc__law_behind_row.nd rfl (Or.inl rfl) (pe_call (ok__law_own T) (hr.mono (by decide)) rfl T.g__law_own T.F__law_own.kp T.b__law_own .nil pass0 (pa_cons (pv 1) (pa_cons (pe_ix ix_tup (pv 2) pe_int (fun _ _ => rfl)) (pa_cons (pv 3) (pa_cons (pe_cmpR op_eq (pv 4) pe_str (nomark _)) (pa_cons (pv 13) (pa_cons (pv 10) (pa_cons (pv 18) pa_nil)))))))))
    (pss_one (ps_ret (pe_call (ok__law_agree T) hr rfl T.g__law_agree T.F__law_agree.kp T.b__law_agree .nil pass0 (pa_cons (pv 0) (pa_cons (pv 5) (pa_cons (pe_ix ix_tup (pv 6) pe_int (fun _ _ => rfl)) (pa_cons (pe_ix ix_tup (pv 6) pe_int (fun _ _ => rfl)) (pa_cons (pv 16) (pa_cons (pv 18) (pa_cons (pv 19) pa_nil))))))))))))))))))))))))), ?_⟩
    have tk1 := tk.one
    have tk4 := tk.four
    refine ⟨Nat.zero_le _, fun RL nRL => ?_⟩
    have sR := same_new (o := .lst []) nRL
    have hR : (upd H RL (.lst [])) RL = some (.lst (([] : List Int).map V.int)) := upd_same
    have d0 := (Drawn2.refl hT).same sR
    generalize upd H RL (.lst []) = H1 at sR hR d0 ⊢
    refine ⟨.ref t, rfl, t, u, 4, rfl, d0.2, by decide, by decide, fun r4 H2 r40 r41 d2 => ⟨r4, rfl, by omega, by omega, ?_⟩⟩
    obtain ⟨tRL, uRL⟩ := hT.ne nRL
    refine for_range0 (n := r4.toNat) (fun i σ H' => ∃ (rs : List Int) (y11 y12 : Option V), σ = [some (.ref t), some (.ref a), some (.ref b), some (.str Ta.g), some (.str (modeS Ta.hl)), some (.ref m), some x, some (.str l), some (.ref RL), some (.str (rowS Ta.ts rs)), some (.int (runG Ta.tab 0 rs)), y11, y12, none, none, none, none, none, none, none] ∧ Drawn2 t u H H' ∧ H' RL = some (.lst (rs.map V.int)) ∧ rs.length = i ∧ InR Ta rs ∧ (rowS Ta.ts rs).length ≤ 3 * i)
      ⟨[], none, none, rfl, d0.trans d2, d2.1 _ _ tRL.symm uRL.symm hR, rfl, fun t h => (by cases h), Nat.zero_le _⟩ (fun i σ H' lt h => ?_) (fun σ H' h => ?_)
    · obtain ⟨rs, y11, y12, rfl, d, hR3, lrs, inr, ltx⟩ := h
      have lts : (Ta.ts.map V.str).length = Ta.ts.length := List.length_map ..
      refine ⟨.ref t, rfl, .ref a, rfl, a, _, rfl, .inr (.inl (.inl (tup_drawn hT d ha))), t, u, (Ta.ts.length : Nat), by rw [lts]; rfl, d.2, by omega, by omega, fun rt H3 rt0 rt1 d3 => ?_⟩
      have d4 := d.trans d3
      have hR4 := d3.1 _ _ tRL.symm uRL.symm hR3
      have dU : Drawn2 t u H (upd H3 RL (.lst (rs.map V.int ++ [V.int rt]))) := d4.at nRL ⟨tRL, uRL⟩
      have hR5 : (upd H3 RL (.lst (rs.map V.int ++ [V.int rt]))) RL = some (.lst ((rs ++ [rt]).map V.int)) := by rw [upd_same, List.map_append]; rfl
      refine ⟨.ref RL, rfl, .inl ⟨rfl, _, .inl (.inl hR4)⟩, .int rt, rfl, RL, _, _, rfl, rfl, hR4, small (by rw [List.length_map]; omega), ?_⟩
      generalize upd H3 RL (.lst (rs.map V.int ++ [V.int rt])) = H5 at dU hR5 ⊢
      have ltk : rt.toNat < Ta.ts.length := by omega
      have etk : Ta.ts[rt.toNat]? = some Ta.ts[rt.toNat] := List.getElem?_eq_getElem ltk
      obtain ⟨z1, z3, za⟩ := tk.some _ (List.getElem_mem ltk)
      generalize Ta.ts[rt.toNat] = tok at etk z1 z3 za
      have eat : atI (Ta.ts.map V.str) rt = some (.str tok) := by
        have e0 : rt = ((rt.toNat : Nat) : Int) := by omega
        rw [e0]
        exact atI_nat (by rw [List.getElem?_map, etk]; rfl)
      have inr2 : InR Ta (rs ++ [rt]) := fun y hy => by
        rcases List.mem_append.mp hy with hy | hy
        · exact inr y hy
        · rw [List.mem_singleton.mp hy]; omega
      have etx := rowS_snoc (r := rs) rt0 etk
      have el : (rowS Ta.ts rs ++ tok).length = (rowS Ta.ts rs).length + tok.length := Str.length_append _ _
      refine ⟨.str (rowS Ta.ts rs), rfl, .ref a, rfl, .int rt, rfl, a, _, rt, .str tok, rfl, rfl, .inl (.inl (tup_drawn hT dU ha)), eat, rowS Ta.ts rs, tok, rfl, rfl, small' (by omega), ?_⟩
      rw [← etx]
      refine ⟨.int (runG Ta.tab 0 rs), rfl, _, _, rfl, rfl, _, rfl, ite2 (fun y => ?_) (fun y => ?_)⟩
      · have r0 : 0 ≤ runG Ta.tab 0 rs := of_decide_eq_true y
        have r1 := run_lt ok (Int.le_refl 0) (by have := ok.cnt; omega) inr
        obtain ⟨e1, e2, c0, c1⟩ := (ok.bk).cell (s := runG Ta.tab 0 rs) (t := rt) r0 (by show runG Ta.tab 0 rs < (Ta.tab.length : Int); rw [ok.tl]; exact r1) rt0 rt1
        obtain ⟨fb, tb, tv, s1, s2, s3, g1⟩ := bk_drawn hT dU hb
        obtain ⟨pn, epn, hpn⟩ := g1.get e1
        refine ⟨.ref b, rfl, b, _, 2, .ref tb, rfl, rfl, s1, rfl, .int (runG Ta.tab 0 rs), rfl, tb, tv, runG Ta.tab 0 rs, .ref pn, rfl, rfl, s3, at_ref r0 epn, .int rt, rfl, pn, _, rt, _, rfl, rfl, hpn, at_map rt0 e2, rs ++ [rt], some (.int (i : Nat)), some (.int rt), ?_, dU, hR5, by rw [List.length_append, lrs]; rfl, inr2, by rw [etx]; omega⟩
        have er : runG Ta.tab 0 (rs ++ [rt]) = cellG Ta.tab (runG Ta.tab 0 rs) rt := by
          rw [run_snoc r0]
          by_cases c : cellG Ta.tab (runG Ta.tab 0 rs) rt < 0
          · rw [if_pos c]
            have c0 : -1 ≤ cellG Ta.tab (runG Ta.tab 0 rs) rt := c0
            omega
          · rw [if_neg c]
        rw [er]
        rfl
      · have r0 : runG Ta.tab 0 rs < 0 := by
          have : ¬ 0 ≤ runG Ta.tab 0 rs := fun h => y (decide_eq_true h)
          omega
        refine ⟨rs ++ [rt], some (.int (i : Nat)), some (.int rt), ?_, dU, hR5, by rw [List.length_append, lrs]; rfl, inr2, by rw [etx]; omega⟩
        rw [run_neg (Int.le_refl 0) r0, run_m1 (Int.le_refl 0) r0]
        rfl
    · obtain ⟨rs, y11, y12, rfl, d, hR3, lrs, inr, ltx⟩ := h
      have ltx : (rowS Ta.ts rs).length ≤ 9 := by omega
      have run0 : runG Ta.tab 0 rs < Ta.count := run_lt ok (Int.le_refl 0) (by have := ok.cnt; omega) inr
      refine ⟨fun σ' H6 => ∃ rd : Str, H6 = H' ∧ rd = (if Ta.hl = true then rowS Ta.ts rs else Ta.g ++ rowS Ta.ts rs) ∧ σ' = [some (.ref t), some (.ref a), some (.ref b), some (.str Ta.g), some (.str (modeS Ta.hl)), some (.ref m), some x, some (.str l), some (.ref RL), some (.str (rowS Ta.ts rs)), some (.int (runG Ta.tab 0 rs)), y11, y12, some (.str rd), none, none, none, none, none, none], ?_, fun σ' H6 h => ?_⟩
      · refine ⟨.str (modeS Ta.hl), rfl, rfl, Ta.hl, by rw [mode_eq2], ?_⟩
        rcases Bool.eq_false_or_eq_true Ta.hl with e | e
        · rw [e]
          exact if_tt ⟨.str (rowS Ta.ts rs), rfl, rowS Ta.ts rs, rfl, by rw [if_pos rfl], rfl⟩
        · rw [e]
          exact if_ff ⟨.str Ta.g, rfl, .str (rowS Ta.ts rs), rfl, Ta.g, rowS Ta.ts rs, rfl, rfl, small' (by omega), Ta.g ++ rowS Ta.ts rs, rfl, by rw [if_neg (by decide)], rfl⟩
      obtain ⟨rd, rfl, erd, rfl⟩ := h
      have lrd : rd.length ≤ 18 := by
        rw [erd]
        split
        · omega
        · have : (Ta.g ++ rowS Ta.ts rs).length = Ta.g.length + (rowS Ta.ts rs).length := Str.length_append _ _
          omega
      have epl := place_read (tab := Ta.tab) erd
      have em : (if ((rd.length : Nat) : Int) < ((Ta.g.length : Nat) : Int) then ((rd.length : Nat) : Int) else ((Ta.g.length : Nat) : Int)) = ((min Ta.g.length rd.length : Nat) : Int) := by
        split <;> omega
      refine ⟨.str Ta.g, rfl, Ta.g, rfl, small' (by omega), .str rd, rfl, rd, rfl, small' (by omega), _, _, rfl, ?_⟩
      rw [em]
      have epn : min Ta.g.length rd.length = min (cl Ta.g).length (cl rd).length := by rw [glen, glen]
      generalize hpn : min Ta.g.length rd.length = pn at epl epn
      refine ⟨fun σ' H7 => ∃ dv : V, Same H6 H7 ∧ Dp K H7 dv (optD (placeG Ta.ts Ta.tab Ta.g Ta.hl rs)) ∧ σ' = [some (.ref t), some (.ref a), some (.ref b), some (.str Ta.g), some (.str (modeS Ta.hl)), some (.ref m), some x, some (.str l), some (.ref RL), some (.str (rowS Ta.ts rs)), some (.int (runG Ta.tab 0 rs)), y11, y12, some (.str rd), some (.int (pn : Nat)), some dv, none, none, none, none], ?_, fun σ' H7 h => ?_⟩
      · refine ⟨.int (runG Ta.tab 0 rs), rfl, _, _, rfl, rfl, _, rfl, ite2 (fun y => ?_) (fun y => ?_)⟩
        · have r0 : 0 ≤ runG Ta.tab 0 rs := of_decide_eq_true y
          rw [if_neg (by omega)] at epl
          refine ⟨.str rd, rfl, .int (pn : Nat), rfl, (pn : Nat), rfl, rd, rfl, small' (by omega), .str Ta.g, rfl, .int (pn : Nat), rfl, (pn : Nat), rfl, Ta.g, rfl, small' (by omega), rfl, ?_⟩
          rw [slice_takeS, slice_takeS]
          by_cases c : takeS rd pn = takeS Ta.g pn
          · rw [if_pos c] at epl
            refine ⟨true, by rw [c, decide_eq_true rfl], if_tt ?_⟩
            refine ⟨.int (pn : Nat), rfl, .int (runG Ta.tab 0 rs), rfl, small' (by simp), fun p np => ?_⟩
            refine ⟨.ref p, same_new np, ?_, rfl⟩
            rw [epl]
            exact .tup (.inl (.inl upd_same)) (.cons (.int _) (.cons (.int _) (.cons (.str _) .nil)))
          · rw [if_neg c] at epl
            refine ⟨false, by rw [decide_eq_false (fun e => c (V.str.inj e))], if_ff ?_⟩
            exact ⟨.non, Same.refl H6, by rw [epl]; exact .non, rfl⟩
        · have r0 : runG Ta.tab 0 rs < 0 := by
            have : ¬ 0 ≤ runG Ta.tab 0 rs := fun h => y (decide_eq_true h)
            omega
          rw [if_pos r0] at epl
          exact if_ff ⟨.non, Same.refl H6, by rw [epl]; exact .non, rfl⟩
      obtain ⟨dv, s67, hdv, rfl⟩ := h
      have hR7 := s67 _ _ hR3
      have d7 := d.same s67
      refine ⟨.ref a, rfl, .ref b, rfl, .str Ta.g, rfl, .str (modeS Ta.hl), rfl, .ref RL, rfl, RL, _, rfl, .inl ⟨.inl (.inl hR7), fun pr npr => ?_⟩⟩
      have spr := same_new (o := .tup (rs.map V.int)) npr
      have hpr : (upd H7 pr (.tup (rs.map V.int))) pr = some (.tup (rs.map V.int)) := upd_same
      have d8 := d7.same spr
      generalize upd H7 pr (.tup (rs.map V.int)) = H8 at spr hpr d8 ⊢
      have rowok : rowD Ta.ts.length (.tuple (rs.map PyData.int)) = true := by
        show ((rs.map PyData.int).all (belowD Ta.ts.length) && decide ((rs.map PyData.int).length ≤ 60)) = true
        rw [row_below inr, List.length_map, decide_eq_true (by omega)]
        rfl
      refine ⟨a, b, .ref pr, Ta.ts, Ta.bk, Ta.g, Ta.hl, .tuple (rs.map PyData.int), rfl, .inl (.inl (tup_drawn hT d8 ha)), bk_drawn hT d8 hb, ok.bk, .tup (.inl (.inl hpr)) (dp_intL rs), by show (rs.map PyData.int).length ≤ 1000; rw [List.length_map]; omega, fun y hy => by have := (ok.len y hy).2; omega, by omega, fun no => absurd (rowok.symm.trans no) (by decide), fun is eis _ v9 H9 s9 hv9 => ?_⟩
      have eis : rs = is := ints_inj (by injection eis)
      subst eis
      refine ⟨dv, rfl, v9, dv, optD (placeG Ta.ts Ta.tab Ta.g Ta.hl rs), rfl, hv9, dp_grow (spr.trans s9) hdv, ok_optD _, fun H10 s10 => ⟨true, rfl, if_ff ?_⟩⟩
      have d10 := (d8.same s9).same s10
      have s710 := (spr.trans s9).trans s10
      cases ep : placeG Ta.ts Ta.tab Ta.g Ta.hl rs with
      | none =>
        rw [ep] at hdv
        cases hdv
        exact ⟨.non, rfl, rfl, _, rfl, if_tt (q _ d10)⟩
      | some p =>
        rw [ep] at hdv epl
        have r0 : 0 ≤ runG Ta.tab 0 rs := by
          by_cases c : runG Ta.tab 0 rs < 0
          · rw [if_pos c] at epl; cases epl
          · omega
        rw [if_neg (by omega)] at epl
        have ct : takeS rd pn = takeS Ta.g pn := by
          by_cases c : takeS rd pn = takeS Ta.g pn
          · exact c
          · rw [if_neg c] at epl; cases epl
        rw [if_pos ct] at epl
        have epl := Option.some.inj epl
        have agr : Agree (cl rd) (cl Ta.g) := (agree_take epn).mpr (congrArg cl ct)
        have eps : p = startP Ta (cl rd) (runG Ta.tab 0 rs) := by
          rw [epl]
          unfold startP
          rw [glen, hpn]
        have inP : p ∈ Ps := (ips.mem p).mpr (by rw [eps]; exact place_reach ok inr r0 erd agr)
        obtain ⟨rp, rfl, srp⟩ := dp_pl3 hdv
        refine ⟨.ref rp, rfl, rfl, _, rfl, if_ff ⟨1, rfl, ?_⟩⟩
        have hdv10 : Dp K H10 (.ref rp) (plD p) := dp_grow s710 hdv
        obtain ⟨q0, p0, f0, a0, vp, va, rfl, hq0, hp0, hP, hf0, ha0, hva⟩ := sp_drawn hT d10 hsp
        have lvp : vp.length = Ps.length := Paired.length hP
        refine ⟨.ref q0, rfl, q0, _, 0, .ref p0, rfl, rfl, .inl (.inl hq0), rfl, p0, _, rfl, .inr (.inl (.inl hp0)), (vp.length : Nat), rfl, by omega, by omega, ?_⟩
        refine for_range0 (n := ((vp.length : Nat) : Int).toNat) (fun i σ H11 => ∃ (sv : Int) (y17 : Option V), σ = [some (.ref t), some (.ref a), some (.ref b), some (.str Ta.g), some (.str (modeS Ta.hl)), some (.ref m), some (.ref q0), some (.str l), some (.ref RL), some (.str (rowS Ta.ts rs)), some (.int (runG Ta.tab 0 rs)), y11, y12, some (.str rd), some (.int (pn : Nat)), some (.ref rp), some (.int sv), y17, none, none] ∧ H11 = H10 ∧ ((sv = -1 ∧ p ∉ Ps.take i) ∨ ∃ k : Nat, sv = (k : Int) ∧ Ps[k]? = some p))
          ⟨-1, none, rfl, rfl, .inl ⟨rfl, by simp⟩⟩ (fun i σ H11 lt h => ?_) (fun σ H11 h => ?_)
        · obtain ⟨sv, y17, rfl, rfl, hsv⟩ := h
          rw [Int.toNat_natCast, lvp] at lt
          have epi : Ps[i]? = some Ps[i] := List.getElem?_eq_getElem lt
          generalize Ps[i] = pi at epi
          have evp : vp[i]? = some (vp[i]'(by omega)) := List.getElem?_eq_getElem _
          generalize vp[i]'(by omega) = xv at evp
          obtain ⟨r, rfl, hr1⟩ := pls_get hP evp epi
          refine ⟨.ref q0, rfl, q0, _, 0, .ref p0, rfl, rfl, .inl (.inl hq0), rfl, .int (i : Nat), rfl, p0, vp, (i : Nat), .ref r, rfl, rfl, .inl (.inl hp0), atI_nat evp, .ref rp, rfl, plD pi, plD p, .tup (.inl (.inl hr1)) (.cons (.int _) (.cons (.int _) (.cons (.str _) .nil))), hdv10, shaped_pl (low pi (List.mem_of_getElem? epi)), shaped_pl (low p inP), decide (pi = p), by rw [eqv_pl], ?_⟩
          by_cases c : pi = p
          · rw [decide_eq_true c]
            exact if_tt ⟨.int (i : Nat), rfl, (i : Nat), _, rfl, rfl, .inr ⟨i, rfl, by rw [epi, c]⟩⟩
          · rw [decide_eq_false c]
            refine if_ff ⟨sv, _, rfl, rfl, hsv.imp (fun h => ⟨h.1, fun hm => ?_⟩) id⟩
            rw [take_snoc epi] at hm
            rcases List.mem_append.mp hm with hm | hm
            · exact h.2 hm
            · exact c (List.mem_singleton.mp hm).symm
        · obtain ⟨sv, y17, rfl, rfl, hsv⟩ := h
          rw [Int.toNat_natCast, lvp, List.take_length] at hsv
          obtain ⟨k, rfl, ek⟩ := hsv.resolve_left fun h => h.2 inP
          refine ⟨.int (k : Nat), rfl, _, _, rfl, rfl, _, rfl, ?_⟩
          rw [decide_eq_false (show ¬ ((k : Nat) : Int) < 0 by omega)]
          refine if_ff ?_
          refine ⟨fun σ' H21 => ∃ mz : Str, abcT mz ∧ mz.length ≤ 9 ∧ Drawn2 t u H11 H21 ∧ σ' = [some (.ref t), some (.ref a), some (.ref b), some (.str Ta.g), some (.str (modeS Ta.hl)), some (.ref m), some (.ref q0), some (.str l), some (.ref RL), some (.str (rowS Ta.ts rs)), some (.int (runG Ta.tab 0 rs)), y11, y12, some (.str rd), some (.int (pn : Nat)), some (.ref rp), some (.int (k : Nat)), y17, some (.str mz), none], ?_, fun σ' H21 h => ?_⟩
          · refine ⟨.ref t, rfl, t, u, 2, rfl, d10.2, by decide, by decide, fun r2 H21 r20 r21 d11 => ⟨rfl, _, rfl, ite2 (fun y => ?_) (fun y => ?_)⟩⟩
            · obtain ⟨f1, f2⟩ := drop_facts Ta.g ((rd.length : Nat) : Int) (by omega)
              exact ⟨.str Ta.g, rfl, .str rd, rfl, rd, rfl, small' (by omega), (rd.length : Nat), rfl, Ta.g, rfl, small' (by omega), _, f2 ag9, by rw [f1]; omega, d11, rfl⟩
            · exact ⟨"", abc_nil, by decide, d11, rfl⟩
          obtain ⟨mz, amz, lmz, d11, rfl⟩ := h
          have d0_11 := d10.trans d11
          refine ⟨.ref t, rfl, .str mz, rfl, .ref t, rfl, .ref a, rfl, t, u, a, Ta.ts, 5, rfl, d0_11.2, tk, tup_drawn hT d0_11 ha, by decide, fun jz H12 d12 aj lj => ?_⟩
          have lmj : (mz ++ jz).length = mz.length + jz.length := Str.length_append _ _
          have sl6 := slice_le (mz ++ jz) (i := 6) (by decide)
          refine ⟨mz, jz, rfl, rfl, small' (by omega), 6, rfl, mz ++ jz, rfl, small' (by omega), .str l, rfl, t, u, Txt.slice (mz ++ jz) none (some 6), l, 6, rfl, d12.2, abc_slice (abc_app amz aj) (by decide), al, l1, l3, by omega, by decide, fun mz2 H13 d13 am lm => ?_⟩
          have d013 := (d0_11.trans d12).trans d13
          obtain ⟨fb, tb, tv, s1, s2, s3, g1⟩ := bk_drawn hT d013 hb
          have hsp13 := sp_drawn (hT) d013 hsp
          have t13 := d013.2
          have r1 : runG Ta.tab 0 rs < Ta.count := run0
          have hh0 : Ta.hl = false → Ta.g.length ≤ rd.length ∨ (rd = "" ∧ runG Ta.tab 0 rs = 0) := fun e => .inl (by
            rw [erd, if_neg (by rw [e]; decide)]
            have : (Ta.g ++ rowS Ta.ts rs).length = Ta.g.length + (rowS Ta.ts rs).length := Str.length_append _ _
            omega)
          have so : StOk Ta (cl rd) (runG Ta.tab 0 rs) := ⟨agr, r0, fun e => .inl (by
            rw [glen]
            rw [erd, if_neg (by rw [e]; decide)]
            have : (Ta.g ++ rowS Ta.ts rs).length = Ta.g.length + (rowS Ta.ts rs).length := Str.length_append _ _
            omega)⟩
          refine ⟨.ref a, rfl, .ref b, rfl, b, _, 2, .ref tb, rfl, rfl, s1, rfl, .str Ta.g, rfl, .str (modeS Ta.hl), rfl, rfl, .str rd, rfl, .int (runG Ta.tab 0 rs), rfl, .str mz2, rfl, ?_⟩
          rw [mode_eq2]
          refine ⟨a, tb, tv, Ta, rd, mz2, runG Ta.tab 0 rs, rfl, .inl (.inl (tup_drawn hT d013 ha)), s3, g1, ok, tk4, by omega, by omega, r0, r1, hh0, fun D H14 s14 ow => ?_⟩
          have d014 := d013.same s14
          obtain ⟨q0', p0', f0', a0', vp', va', eq0, hq0', hp0', hP', hf0', ha0', hva'⟩ := sp_drawn hT d014 hsp
          injection eq0 with eq0
          subst eq0
          refine ⟨.ref t, rfl, .ref m, rfl, .ref q0, rfl, q0, _, 0, .ref p0', rfl, rfl, .inl (.inl hq0'), rfl, .ref q0, rfl, q0, _, 2, .ref a0', rfl, rfl, .inl (.inl hq0'), rfl, .int (k : Nat), rfl, .str mz2, rfl, .ref D, rfl, ?_⟩
          exact ⟨t, u, m, ma, p0', a0', D, Ta, Ps, A, vm, vp', va', cl rd, runG Ta.tab 0 rs, k, mz2, H13, rfl, t13, s14, d014.2, sqT_drawn hT d014 hm, sqT_drawn hT d014 hma, a4s_drawn hT d014 hvm, hp0', hP', .inl (.inl ha0'), a4s_at hva', ok, ips, ias, so, by rw [← eps]; exact ek, abc_textD am, by omega, lP, lA, low, ow, fun H15 d15 => q _ (d014.trans d15)⟩
end
end K58
set_option Elab.async false
set_option linter.all false
set_option maxRecDepth 100000
set_option maxHeartbeats 2000000
namespace K58
open PySem PySem.Spec PyProof.Rows L2 Ver
theorem toks_pl (p : Pl) : PySem.W.keyToks (plK p) = [.inl 1, .inl (p.i : Int), .inl 1, .inl (p.u.length : Int), .inl 1, .inr p.u.cps.toList, .inl 1, .inl p.b, .inl 0] := rfl
abbrev lx := PyProof.Rows.lexLt PyProof.Rows.itemOrd
theorem lx_self (x : Int ⊕ List Nat) (l m : List (Int ⊕ List Nat)) : lx (x :: l) (x :: m) = lx l m := PyProof.Rows.lex_self (O := PyProof.Rows.itemOrd) x l m
theorem lx_diff {x y : Int ⊕ List Nat} (h : x ≠ y) (l m : List (Int ⊕ List Nat)) : lx (x :: l) (y :: m) = lx [x] [y] := PySem.W.lex_atom h l m
theorem lx_int {a b : Int} (h : lx [.inl a] [.inl b] = true) : a < b := by
  rcases (PyProof.Rows.lex_true (O := PyProof.Rows.itemOrd)).mp h with h | h
  · exact of_decide_eq_true h
  · have : PyProof.Rows.lexLt PyProof.Rows.itemOrd [] [] = true := h.2
    rw [PyProof.Rows.lexLt] at this
    cases this
theorem start_le {T : Ta} {p : Pl} (h : T.In p) : lePl ⟨0, 0, ""⟩ p = true := by
  show (!PySem.W.dataLt (plK p) (plK ⟨0, 0, ""⟩)) = true
  cases hc : PySem.W.dataLt (plK p) (plK ⟨0, 0, ""⟩) with
  | false => rfl
  | true =>
    have h1 : lx (PySem.W.keyToks (plK p)) (PySem.W.keyToks (plK ⟨0, 0, ""⟩)) = true := hc
    rw [toks_pl, toks_pl] at h1
    obtain ⟨i, b, u⟩ := p
    have b0 : 0 ≤ b := h.2.1
    dsimp only at h1
    rw [lx_self] at h1
    by_cases c1 : i = 0
    · subst c1
      rw [lx_self, lx_self] at h1
      by_cases c2 : u.length = 0
      · have eu : u = "" := Ver.str_of_list (List.eq_nil_of_length_eq_zero (by rw [glen]; exact c2))
        subst eu
        rw [lx_self, lx_self, lx_self, lx_self] at h1
        by_cases c3 : b = 0
        · subst c3
          rw [lx_self, lx_self] at h1
          cases h1
        · rw [lx_diff (fun e => c3 (Sum.inl.inj e))] at h1
          have := lx_int h1
          omega
      · have ne : ¬ (Sum.inl (u.length : Int) : Int ⊕ List Nat) = .inl (("" : Str).length : Int) := fun e => c2 (by
          have := Sum.inl.inj e
          have e0 : (("" : Str).length : Int) = 0 := rfl
          omega)
        rw [lx_diff ne] at h1
        have := lx_int h1
        have e0 : (("" : Str).length : Int) = 0 := rfl
        omega
    · have ne : ¬ (Sum.inl (i : Int) : Int ⊕ List Nat) = .inl ((0 : Nat) : Int) := fun e => c1 (by have := Sum.inl.inj e; omega)
      rw [lx_diff ne] at h1
      have := lx_int h1
      omega
theorem first_place {T : Ta} (ok : T.Ok) {P : List Pl} (ips : IsPs T P) : P[0]? = some ⟨0, 0, ""⟩ := by
  have m : (⟨0, 0, ""⟩ : Pl) ∈ P := (ips.mem _).mpr .start
  have pw := srt_pw plK P
  have e : P.mergeSort (PySem.W.dataLe false plK) = P := ips.ord
  rw [e] at pw
  cases P with
  | nil => cases m
  | cons x xs =>
    have hx : T.In x := reach_in ok ((ips.mem x).mp List.mem_cons_self)
    rcases List.mem_cons.mp m with h | h
    · rw [h]; rfl
    · have h1 := (List.pairwise_cons.mp pw).1 _ h
      have : x = ⟨0, 0, ""⟩ := le_anti plK_inj _ _ h1 (start_le hx)
      rw [this]; rfl
def candA (T : Ta) (P : List Pl) (k : Nat) (p : Pl) : List A4 :=
  (match T.g.cps.toList[p.i]? with | some c => [⟨k, oneS c, P.idxOf ⟨p.i + 1, 0, ""⟩, -1⟩] | none => []) ++
  (T.ts.map fun tk => ⟨k, oneS ((cl tk).getD (cl p.u).length 0), P.idxOf ⟨min T.g.length (p.i + 1), p.b, p.u ++ oneS ((cl tk).getD (cl p.u).length 0)⟩, -1⟩) ++
  (List.range T.ts.length).map fun t => ⟨k, oneS ((cl (T.ts.getD t "")).getD (cl p.u).length 0), P.idxOf ⟨min T.g.length (p.i + 1), cellG T.tab p.b (t : Int), ""⟩, (t : Int)⟩
theorem cand_len {T : Ta} {P : List Pl} {k : Nat} {p : Pl} : (candA T P k p).length ≤ 1 + 2 * T.ts.length := by
  unfold candA
  rw [List.length_append, List.length_append, List.length_map, List.length_map, List.length_range]
  have : (match T.g.cps.toList[p.i]? with | some c => [A4.mk k (oneS c) (P.idxOf (Pl.mk (p.i + 1) 0 "")) (-1)] | none => []).length ≤ 1 := by
    split
    · exact Nat.le_refl 1
    · exact Nat.zero_le 1
  omega
theorem cand_mem {T : Ta} {P : List Pl} (nd : P.Nodup) {a : A4} {p : Pl} {r : Ar} (hr : IsArc T p r) (e2 : P[a.j]? = some r.to) (e3 : a.l = r.l) (e4 : a.t = r.t) : a ∈ candA T P a.k p := by
  have ej := idx_of_get nd e2
  obtain ⟨k, l, j, t⟩ := a
  have e3 : l = r.l := e3
  have e4 : t = r.t := e4
  have ej : P.idxOf r.to = j := ej
  show (⟨k, l, j, t⟩ : A4) ∈ candA T P k p
  unfold candA
  cases hr with
  | @ahead c h1 h2 =>
    refine List.mem_append_left _ (List.mem_append_left _ ?_)
    rw [h2]
    exact List.mem_singleton.mpr (by rw [e3, e4, ← ej])
  | @inner c h1 h2 h3 =>
    refine List.mem_append_left _ (List.mem_append_right _ ?_)
    obtain ⟨tk, htk, k', hk', e⟩ := h3
    have e1 : cl p.u ++ [c] = (cl tk).take k' := by
      have := congrArg cl e
      rw [cl_app, cl_one] at this
      exact this
    have lu : (cl p.u).length < k' := by
      have := congrArg List.length e1
      rw [List.length_append, List.length_take, List.length_singleton] at this
      omega
    have ec : (cl tk).getD (cl p.u).length 0 = c := by
      have h := congrArg (fun z => z[(cl p.u).length]?) e1
      simp only [List.getElem?_take, if_pos lu] at h
      rw [List.getElem?_append_right (Nat.le_refl _), Nat.sub_self] at h
      rw [List.getD_eq_getElem?_getD, ← h]
      rfl
    refine List.mem_map.mpr ⟨tk, htk, ?_⟩
    rw [ec, e3, e4, ← ej]
  | @ends c t' h1 h2 h3 h4 =>
    refine List.mem_append_right _ ?_
    have lt := (List.getElem?_eq_some_iff.mp h3).1
    have eg : T.ts.getD t' "" = p.u ++ oneS c := by rw [List.getD_eq_getElem?_getD, h3]; rfl
    have ec : (cl (T.ts.getD t' "")).getD (cl p.u).length 0 = c := by
      rw [eg, cl_app, cl_one, List.getD_eq_getElem?_getD, List.getElem?_append_right (Nat.le_refl _), Nat.sub_self]
      rfl
    refine List.mem_map.mpr ⟨t', List.mem_range.mpr lt, ?_⟩
    rw [ec, e3, e4, ← ej]
theorem arcs_len {T : Ta} {P : List Pl} {A : List A4} (ips : IsPs T P) (ias : IsAs T P A) : A.length ≤ P.length * (1 + 2 * T.ts.length) := by
  have sub : ∀ a ∈ A, a ∈ (List.range P.length).flatMap fun k => match P[k]? with | some p => candA T P k p | none => [] := fun a ha => by
    obtain ⟨p, r, h1, h2, h3, h4, h5⟩ := (ias.mem a).mp ha
    refine List.mem_flatMap.mpr ⟨a.k, List.mem_range.mpr (List.getElem?_eq_some_iff.mp h1).1, ?_⟩
    rw [h1]
    exact cand_mem ips.nd h2 h3 h4 h5
  have h1 := ias.nd.length_le_of_subset sub
  have key : ∀ (l : List Nat), (l.flatMap fun k => match P[k]? with | some p => candA T P k p | none => []).length ≤ l.length * (1 + 2 * T.ts.length) := by
    intro l
    induction l with
    | nil => exact Nat.zero_le _
    | cons k l ih =>
      rw [List.flatMap_cons, List.length_append, List.length_cons, Nat.succ_mul]
      have : (match P[k]? with | some p => candA T P k p | none => []).length ≤ 1 + 2 * T.ts.length := by
        split
        · exact cand_len
        · exact Nat.zero_le _
      omega
  have h2 := key (List.range P.length)
  rw [List.length_range] at h2
  omega
theorem begL_le3 {ts : List Str} (h : ∀ z ∈ ts, z.length ≤ 3) : (begL ts).length ≤ 3 * ts.length := by
  unfold begL
  induction ts with
  | nil => simp
  | cons z ts ih =>
    rw [List.flatMap_cons, List.length_append, List.length_map, List.length_range, List.length_cons]
    have := ih fun y hy => h y (List.mem_cons_of_mem _ hy)
    have := h z List.mem_cons_self
    omega
theorem most_le {T : Ta} (tk : Toks T.ts) (c3 : T.count ≤ 3) (g5 : T.g.length ≤ 5) : T.most ≤ 216 := by
  have h1 := begL_le3 fun z hz => (tk.some z hz).2.1
  have h2 := tk.four
  unfold Ta.most
  have h3 : T.count * (begL T.ts).length ≤ 3 * 12 := Nat.mul_le_mul c3 (by omega)
  exact Nat.le_trans (Nat.mul_le_mul (show T.g.length + 1 ≤ 6 by omega) h3) (by decide)
theorem low_pl {T : Ta} (ok : T.Ok) (tk : Toks T.ts) {P : List Pl} (ips : IsPs T P) : ∀ p ∈ P, lowS p.u := fun p hp => by
  obtain ⟨z, hz, k, _, e⟩ := (reach_in ok ((ips.mem p).mp hp)).2.2.2
  intro c hc
  rw [e] at hc
  have := (tk.some z hz).2.2 c (List.mem_of_mem_take hc)
  omega
theorem okT_mono {n : Nat} : ∀ {d : PyData}, okT n d → okT (n + 1) d := by
  induction n with
  | zero =>
    intro d h
    cases d
    case tuple ds => exact h.elim
    all_goals first | exact True.intro | exact h.elim
  | succ n ih =>
    intro d h
    cases d
    case tuple ds => exact ⟨h.1, fun e he => ih (h.2 e he)⟩
    all_goals first | exact True.intro | exact h.elim
theorem okT_flat {n : Nat} {ds : List PyData} (l : ds.length ≤ 100000) (h : ∀ e ∈ ds, okT 0 e) : okT (n + 1) (.tuple ds) := ⟨l, fun e he => by
  have := h e he
  clear h l
  induction n with
  | zero => exact this
  | succ n ih => exact okT_mono ih⟩
theorem ok_pr (P : List Pl) {A : List A4} (l : A.length ≤ 5000) : okT 5 (prD P A) := by
  refine ⟨by show 2 ≤ 100000; decide, fun e he => ?_⟩
  rcases List.mem_cons.mp he with rfl | he
  · exact True.intro
  · rw [List.mem_singleton.mp he]
    refine ⟨by rw [List.length_map]; omega, fun d hd => ?_⟩
    obtain ⟨a, _, rfl⟩ := List.mem_map.mp hd
    refine ⟨by show 4 ≤ 100000; decide, fun x hx => ?_⟩
    rcases List.mem_cons.mp hx with rfl | hx
    · exact True.intro
    · rcases List.mem_cons.mp hx with rfl | hx
      · exact True.intro
      · rcases List.mem_cons.mp hx with rfl | hx
        · exact True.intro
        · rw [List.mem_singleton.mp hx]; exact True.intro
theorem ok_first : okT 5 (.tuple [plD ⟨0, 0, ""⟩]) := ⟨by show 1 ≤ 100000; decide, fun e he => by
  rw [List.mem_singleton.mp he]
  exact ok_optD (n := 2) (some ⟨0, 0, ""⟩)⟩
theorem fins_twice (T : Ta) (P : List Pl) : finsOf T P = ((List.range P.length).filter fun k => match P[k]? with | some p => decide (p.i = T.g.length) && decide (p.u = "") | none => false).filter fun k => match P[k]? with | some p => decide (p.b ∈ T.fin) | none => false := by
  unfold finsOf
  rw [List.filter_filter]
  refine List.filter_congr fun k _ => ?_
  cases P[k]? with
  | none => rfl
  | some p =>
    unfold finalP
    dsimp only
    rw [Bool.and_comm]
end K58
set_option Elab.async false
set_option linter.all false
set_option maxRecDepth 100000
set_option maxHeartbeats 4000000
namespace K58
open PySem PySem.Spec PyProof.Rows L2 Ver
theorem op_inSeqK {X : Cx} {K : PySem.W.Frag} (h : X.K = K) : OpR X (compareOp .In) (rIn K false) := by subst h; exact op_in_seq
theorem tabs_drawn {T : List (Addr × Str)} {t u : Addr} {H H' : Hp} (hp : Tape t u H) (d : Drawn2 t u H H') (x : LamX.Tabs T H) : LamX.Tabs T H' := fun y hy => by
  obtain ⟨ps, h1, h2, h3⟩ := x y hy
  obtain ⟨_, ns, c, sd, _, _, _, _, e1, e2⟩ := hp
  refine ⟨ps, d.1 _ _ (fun z => ?_) (fun z => ?_) h1, h2, fun pos cv hc => ?_⟩
  · rw [z, e1] at h1; cases h1
  · rw [z, e2] at h1; cases h1
  · obtain ⟨c, f1, f2⟩ := h3 pos cv hc
    refine ⟨c, f1, d.1 _ _ (fun z => ?_) (fun z => ?_) f2⟩
    · rw [z, e1] at f2
      have e3 := Option.some.inj f2
      unfold LamX.CodeO at e3
      cases e3
    · rw [z, e2] at f2
      have e3 := Option.some.inj f2
      unfold LamX.CodeO at e3
      cases e3
theorem tape_ext {t u : Addr} {H H' : Hp} (e : LamX.ExtN H H') (h : Tape t u H) : Tape t u H' := by
  obtain ⟨tu, ns, c, sd, h1, h2, h3, ln, ht, hu⟩ := h
  exact ⟨tu, ns, c, sd, h1, h2, h3, ln, e _ _ ht fun ps z => (by cases z), e _ _ hu fun ps z => (by cases z)⟩
theorem bk_ext {K : PySem.W.Frag} {a : Addr} {B : Bk} {H H' : Hp} (e : LamX.ExtN H H') (h : BkAt K H a B) : BkAt K H' a B := by
  obtain ⟨f, t, tv, h1, h2, h3, h4⟩ := h
  exact ⟨f, t, tv, seqT_ext e h1, seqT_ext e h2, seqT_ext e h3, rows_keep (fun b xs z => e _ _ z fun ps y => (by cases y)) h4⟩
theorem sp_ext {v : V} {T : Ta} {P : List Pl} {A : List A4} {H H' : Hp} (e : LamX.ExtN H H') (h : SpAt H v T P A) : SpAt H' v T P A := by
  obtain ⟨q, p, f, a, vp, va, h1, h2, h3, h4, h5, h6, h7⟩ := h
  have k : ∀ b xs, H b = some (.tup xs) → H' b = some (.tup xs) := fun b xs z => e _ _ z fun ps y => (by cases y)
  exact ⟨q, p, f, a, vp, va, h1, k _ _ h2, k _ _ h3, pls_keep k h4, k _ _ h5, k _ _ h6, a4_keep k h7⟩
theorem sp_data {K : PySem.W.Frag} {v : V} {T : Ta} {P : List Pl} {A : List A4} {H : Hp} (h : SpAt H v T P A) : Dp K H v (spD T P A) := by
  obtain ⟨q, p, f, a, vp, va, rfl, h2, h3, h4, h5, h6, h7⟩ := h
  have dn : ∀ l : List Nat, DpAll K H (l.map fun k => V.int (k : Nat)) (l.map fun k => PyData.int (k : Nat)) := fun l => by
    induction l with
    | nil => exact .nil
    | cons k l ih => exact .cons (.int _) ih
  exact .tup (.inl (.inl h2)) (.cons (.tup (.inl (.inl h3)) (pls_data h4)) (.cons (.tup (.inl (.inl h5)) (dn _)) (.cons (.tup (.inl (.inl h6)) (a4_data h7)) .nil)))
theorem dp_pr {K : PySem.W.Frag} {H : Hp} {v : V} {P : List Pl} {A : List A4} (h : Dp K H v (prD P A)) : ∃ m ma vm, v = .ref m ∧ SqT K H m [.int (P.length : Nat), .ref ma] ∧ SqT K H ma vm ∧ DpAll K H vm (A.map costD) := by
  cases h with
  | tup hs ha =>
    cases ha with
    | cons h1 t1 =>
      cases h1
      cases t1 with
      | cons h2 t2 =>
        cases h2 with
        | tup s2 d2 =>
          cases t2
          exact ⟨_, _, _, rfl, hs, s2, d2⟩
def endB (T : Ta) (P : List Pl) (k : Nat) : Bool := match P[k]? with | some p => decide (p.i = T.g.length) && decide (p.u = "") | none => false
def finB (T : Ta) (P : List Pl) (k : Nat) : Bool := match P[k]? with | some p => decide (p.b ∈ T.fin) | none => false
theorem range_filter_succ (f : Nat → Bool) (n : Nat) : (List.range (n + 1)).filter f = (List.range n).filter f ++ (if f n = true then [n] else []) := by
  rw [List.range_succ, filter_snoc]
section
variable {P : Program} {w : World} {K : PySem.W.Frag} {mg : Str → Option Value} {base : Heap}
def sp_law (K : PySem.W.Frag) (TS : List (Addr × Str)) : Sp := fun vs H Q _ => ∃ (a : Addr) (ns : List Int), vs = [.ref a] ∧ SqL K H a (ns.map V.int) ∧ ns.length ≤ 63 ∧ LamX.Tabs TS H ∧ ∀ H', Q (.bl true) H'
theorem ok_law {cc cP cd cS : Addr} (T : Tx K mg) (TB : Tb T base cc cP cd cS) : FnOk P w K mg base CX0 9 T.f_law T.d_law ["script"] (sp_law K (TT cP cS)) := by
  refine T.F_law.ok sc_law (fun vs H Q E h => ?_) (fun cdv A outer s H vs Q E hr h => ?_)
  · obtain ⟨a, ns, rfl, _⟩ := h; rfl
  · obtain ⟨a, ns, rfl, hS, h63, hB, q⟩ := h
    refine ⟨_, (pss_cons (ps_set (i := 1) sc_law.nd rfl (Or.inl rfl) (pe_lst (pa_cons (pe_lc (own := [("cell", 21)]) (g := gName 21) (tt := tYes) (by rfl) sc_law.nd (pi_list (pv 0)) (blkOk_by (N := ["script", "tape", "letters", "tokens", "book", "mode", "base", "cut", "begun", "told", "places", "finals", "arcs", "ends", "machine", "due", "lap", "text", "own", "q", "arc", "cell"]) (sc := defScope s_law) (by decide +kernel)) (fun _ _ _ _ _ => (pg_name (i := 21) sc_law.nd rfl (Or.inl rfl))) (fun _ _ _ _ _ => pts_nil) (fun _ _ _ _ _ => (pe_ifExp (pt_cmpR op_ge (pv 21) pe_int (nomark _)) (pe_callTy call_int1 (by rfl) T.n_int (by decide +kernel) (pa_cons (pv 21) pa_nil)) (pe_op op_sub pe_int (pe_op op_mul pe_int (pe_callTy call_int1 (by rfl) T.n_int (by decide +kernel) (pa_cons (pv 21) pa_nil))))))) (pa_cons pe_int (pa_cons pe_int pa_nil)))))
    (pss_cons (ps_asg (pe_call (ok__law_tokens T) (hr.mono (by decide)) rfl T.g__law_tokens T.F__law_tokens.kp T.b__law_tokens .nil pass0 (pa_cons (pv 1) pa_nil)) (pg_tup (by rfl) (pgs_cons (pg_name (i := 2) sc_law.nd rfl (Or.inl rfl)) (pgs_cons (pg_name (i := 3) sc_law.nd rfl (Or.inl rfl)) pgs_nil))))
    (pss_cons (ps_set (i := 4) sc_law.nd rfl (Or.inr rfl) (pe_call (ok__law_book T) (hr.mono (by decide)) rfl T.g__law_book T.F__law_book.kp T.b__law_book .nil pass0 (pa_cons (pv 1) (pa_cons (pe_callB call_len_seq (by rfl) T.n_len (by decide +kernel) (pa_cons (pv 3) pa_nil)) pa_nil))))
    (pss_cons (ps_set (i := 5) sc_law.nd rfl (Or.inl rfl) (pe_ix ix_tup (pe_tup (pa_cons pe_str (pa_cons pe_str pa_nil))) (pe_call (ok__law_pick T) (hr.mono (by decide)) rfl T.g__law_pick T.F__law_pick.kp T.b__law_pick .nil pass0 (pa_cons (pv 1) (pa_cons pe_int pa_nil))) (fun _ _ => rfl)))
    (pss_cons (ps_set (i := 6) sc_law.nd rfl (Or.inl rfl) (pe_call (ok__law_joined T) (hr.mono (by decide)) rfl T.g__law_joined T.F__law_joined.kp T.b__law_joined .nil pass0 (pa_cons (pv 1) (pa_cons (pv 3) (pa_cons pe_int pa_nil)))))
    (pss_cons (ps_set (i := 7) sc_law.nd rfl (Or.inl rfl) (pe_slice C8.sl_txt (pv 6) po_none (po_some (pe_call (ok__law_pick T) (hr.mono (by decide)) rfl T.g__law_pick T.F__law_pick.kp T.b__law_pick .nil pass0 (pa_cons (pv 1) (pa_cons (pe_op op_add (pe_callB call_len_str (by rfl) T.n_len (by decide +kernel) (pa_cons (pv 6) pa_nil)) pe_int) pa_nil))))))
    (pss_cons (ps_set (i := 8) sc_law.nd rfl (Or.inr rfl) (pe_ix ix_tup (pe_tup (pa_cons (pv 7) (pa_cons (pv 6) (pa_cons (pe_call (ok__law_spoilt T) (hr.mono (by decide)) rfl T.g__law_spoilt T.F__law_spoilt.kp T.b__law_spoilt .nil pass0 (pa_cons (pv 1) (pa_cons (pe_slice C8.sl_txt (pv 6) po_none (po_some pe_int)) (pa_cons (pv 2) (pa_cons pe_int pa_nil))))) (pa_cons pe_str pa_nil))))) (pe_call (ok__law_pick T) (hr.mono (by decide)) rfl T.g__law_pick T.F__law_pick.kp T.b__law_pick .nil pass0 (pa_cons (pv 1) (pa_cons pe_int pa_nil))) (fun _ _ => rfl)))
    (pss_cons (ps_set (i := 9) sc_law.nd rfl (Or.inl rfl) (pe_call (ok_speller T TB) (hr.mono (by decide)) rfl T.g_speller T.F_speller.kp T.b_speller .nil pass0 (pa_cons (pv 3) (pa_cons (pv 4) (pa_cons (pv 8) (pa_cons (pv 5) pa_nil))))))
    (C8.pss_cut (ps_if (PW.pt (pw_or (pt_not (pt_val (pe_call (ok__law_shape T) (hr.mono (by decide)) rfl T.g__law_shape T.F__law_shape.kp T.b__law_shape .nil pass0 (pa_cons (pv 9) (pa_cons (pe_callB call_len_seq (by rfl) T.n_len (by decide +kernel) (pa_cons (pv 3) pa_nil)) (pa_cons (pe_ix ix_tup (pv 4) pe_int (fun _ _ => rfl)) pa_nil)))))) (pw_or1 (pt_not (pt_val (pe_call (ok__law_same T 5) (hr.mono (by decide)) rfl T.g__law_same T.F__law_same.kp T.b__law_same .nil pass0 (pa_cons (pe_slice sl_tupA (pe_ix ix_tup (pv 9) pe_int (fun _ _ => rfl)) po_none (po_some pe_int)) (pa_cons (pe_tup (pa_cons (pe_tup (pa_cons pe_int (pa_cons pe_int (pa_cons pe_str pa_nil)))) pa_nil)) pa_nil)))))))) (pss_one (ps_ret pe_bl)) pss_nil)
    (pss_cons (ps_asg (pv 9) (pg_tup (by rfl) (pgs_cons (pg_name (i := 10) sc_law.nd rfl (Or.inr rfl)) (pgs_cons (pg_name (i := 11) sc_law.nd rfl (Or.inl rfl)) (pgs_cons (pg_name (i := 12) sc_law.nd rfl (Or.inl rfl)) pgs_nil)))))
    (pss_cons (ps_setLc (i := 13) (own := [("q", 19)]) (g := gName 19) (tt := _) (by rfl) sc_law.nd rfl rfl (sw_true rfl rfl rfl (by decide +kernel)) (pi_range1 rfl T.n_range (pa_cons (pe_callB call_len_seq (by rfl) T.n_len (by decide +kernel) (pa_cons (pv 10) pa_nil)) pa_nil)) (blkOk_by (N := ["script", "tape", "letters", "tokens", "book", "mode", "base", "cut", "begun", "told", "places", "finals", "arcs", "ends", "machine", "due", "lap", "text", "own", "q", "arc", "cell"]) (sc := defScope s_law) (by decide +kernel)) (fun _ _ _ _ _ => (pg_name (i := 19) sc_law.nd rfl (Or.inl rfl))) (fun _ _ _ _ _ => (pts_one (PW.pt (pw_and (pt_cmpR op_eq (pe_ix (ix_tupK (K := K) rfl) (pe_ix (ix_tupK (K := K) rfl) (pv 10) (pv 19) (fun _ _ => rfl)) pe_int (fun _ _ => rfl)) (pe_callB call_len_str (by rfl) T.n_len (by decide +kernel) (pa_cons (pv 8) pa_nil)) (nomark _)) (pw_and1 (pt_cmpR op_eq (pe_ix (ix_tupK (K := K) rfl) (pe_ix (ix_tupK (K := K) rfl) (pv 10) (pv 19) (fun _ _ => rfl)) pe_int (fun _ _ => rfl)) pe_str (nomark _))))))) (fun _ _ _ _ _ => (pv 19)))
    (pss_cons (ps_if (pt_cmpR (op_neD (Nat.lt_of_succ_lt (hu65 hr))) (pe_callTy call_list_of (by rfl) T.n_list (by decide +kernel) (pa_cons (pv 11) pa_nil)) (pe_lc (own := [("q", 19)]) (g := gName 19) (tt := _) (by rfl) sc_law.nd (pi_list (pv 13)) (blkOk_by (N := ["script", "tape", "letters", "tokens", "book", "mode", "base", "cut", "begun", "told", "places", "finals", "arcs", "ends", "machine", "due", "lap", "text", "own", "q", "arc", "cell"]) (sc := defScope s_law) (by decide +kernel)) (fun _ _ _ _ _ => (pg_name (i := 19) sc_law.nd rfl (Or.inl rfl))) (fun _ _ _ _ _ => (pts_one (pt_cmpR (op_inSeqK (K := K) rfl) (pe_ix (ix_tupK (K := K) rfl) (pe_ix (ix_tupK (K := K) rfl) (pv 10) (pv 19) (fun _ _ => rfl)) pe_int (fun _ _ => rfl)) (pe_ix (ix_tupK (K := K) rfl) (pv 4) pe_int (fun _ _ => rfl)) (by rfl)))) (fun _ _ _ _ _ => (pv 19))) (nomark _)) (pss_one (ps_ret pe_bl)) pss_nil)
    (pss_cons (ps_set (i := 14) sc_law.nd rfl (Or.inl rfl) (pe_call (ok_priced T TB) (hr.mono (by decide)) rfl T.g_priced T.F_priced.kp T.b_priced .nil pass0 (pa_cons (pv 3) (pa_cons (pv 4) (pa_cons (pv 8) (pa_cons (pv 5) pa_nil))))))
    (pss_cons (ps_setLc (i := 15) (own := [("arc", 20)]) (g := gName 20) (tt := tYes) (by rfl) sc_law.nd rfl rfl (sw_true rfl rfl rfl (by decide +kernel)) (pi_tup (pv 12)) (blkOk_by (N := ["script", "tape", "letters", "tokens", "book", "mode", "base", "cut", "begun", "told", "places", "finals", "arcs", "ends", "machine", "due", "lap", "text", "own", "q", "arc", "cell"]) (sc := defScope s_law) (by decide +kernel)) (fun _ _ _ _ _ => (pg_name (i := 20) sc_law.nd rfl (Or.inl rfl))) (fun _ _ _ _ _ => pts_nil) (fun _ _ _ _ _ => (pe_tup (pa_cons (pe_ix (ix_tupK (K := K) rfl) (pv 20) pe_int (fun _ _ => rfl)) (pa_cons (pe_ix (ix_tupK (K := K) rfl) (pv 20) pe_int (fun _ _ => rfl)) (pa_cons (pe_ix (ix_tupK (K := K) rfl) (pv 20) pe_int (fun _ _ => rfl)) (pa_cons (pe_ifExp (pt_cmpR op_ge (pe_ix (ix_tupK (K := K) rfl) (pv 20) pe_int (fun _ _ => rfl)) pe_int (nomark _)) pe_int pe_int) pa_nil)))))))
    (pss_cons (ps_if (pt_not (pt_val (pe_call (ok__law_same T 5) (hr.mono (by decide)) rfl T.g__law_same T.F__law_same.kp T.b__law_same .nil pass0 (pa_cons (pv 14) (pa_cons (pe_tup (pa_cons (pe_callB call_len_seq (by rfl) T.n_len (by decide +kernel) (pa_cons (pv 10) pa_nil)) (pa_cons (pe_callTy call_tuple_of (by rfl) T.n_tuple (by decide +kernel) (pa_cons (pv 15) pa_nil)) pa_nil))) pa_nil))))) (pss_one (ps_ret pe_bl)) pss_nil)
    (pss_cons (ps_for PassesOwn.never rfl (pi_range1 rfl T.n_range (pa_cons pe_int pa_nil)) (pg_name (i := 16) sc_law.nd rfl (Or.inl rfl))
    (pss_cons (ps_set (i := 17) sc_law.nd rfl (Or.inl rfl) (pe_call (ok__law_joined T) (hr.mono (by decide)) rfl T.g__law_joined T.F__law_joined.kp T.b__law_joined .nil pass0 (pa_cons (pv 1) (pa_cons (pv 3) (pa_cons pe_int pa_nil)))))
    (C8.pss_cut (ps_if (pt_cmpR op_eq (pv 5) pe_str (nomark _)) (pss_one (ps_set (i := 17) sc_law.nd rfl (Or.inl rfl) (pe_op op_add_str (pv 8) (pe_slice C8.sl_txt (pv 17) po_none (po_some pe_int))))) (pss_one (ps_if (pt_cmpR op_gt (pe_call (ok__law_pick T) (hr.mono (by decide)) rfl T.g__law_pick T.F__law_pick.kp T.b__law_pick .nil pass0 (pa_cons (pv 1) (pa_cons pe_int pa_nil))) pe_int (nomark _)) (pss_one (ps_set (i := 17) sc_law.nd rfl (Or.inl rfl) (pe_op op_add_str (pv 6) (pe_slice C8.sl_txt (pv 17) po_none (po_some pe_int))))) pss_nil)))
    (pss_cons (ps_set (i := 17) sc_law.nd rfl (Or.inl rfl) (pe_call (ok__law_spoilt T) (hr.mono (by decide)) rfl T.g__law_spoilt T.F__law_spoilt.kp T.b__law_spoilt .nil pass0 (pa_cons (pv 1) (pa_cons (pv 17) (pa_cons (pv 2) (pa_cons pe_int pa_nil))))))
    (pss_cons (ps_set (i := 18) sc_law.nd rfl (Or.inl rfl) (pe_call (ok__law_own T) (hr.mono (by decide)) rfl T.g__law_own T.F__law_own.kp T.b__law_own .nil pass0 (pa_cons (pv 3) (pa_cons (pe_ix ix_tup (pv 4) pe_int (fun _ _ => rfl)) (pa_cons (pv 8) (pa_cons (pe_cmpR op_eq (pv 5) pe_str (nomark _)) (pa_cons pe_str (pa_cons pe_int (pa_cons (pv 17) pa_nil)))))))))
    (pss_one (ps_if (pt_not (pt_val (pe_call (ok__law_agree T) (hr.mono (by decide)) rfl T.g__law_agree T.F__law_agree.kp T.b__law_agree .nil pass0 (pa_cons (pv 1) (pa_cons (pv 14) (pa_cons (pv 10) (pa_cons (pv 12) (pa_cons pe_int (pa_cons (pv 17) (pa_cons (pv 18) pa_nil)))))))))) (pss_one (ps_ret pe_bl)) pss_nil)))))))
    (pss_cons (ps_for PassesOwn.never rfl (pi_range1 rfl T.n_range (pa_cons pe_int pa_nil)) (pg_name (i := 16) sc_law.nd rfl (Or.inl rfl))
    (pss_one (ps_if (pt_not (pt_val (pe_call (ok__law_behind_row T) hr rfl T.g__law_behind_row T.F__law_behind_row.kp T.b__law_behind_row .nil pass0 (pa_cons (pv 1) (pa_cons (pv 3) (pa_cons (pv 4) (pa_cons (pv 8) (pa_cons (pv 5) (pa_cons (pv 14) (pa_cons (pv 9) (pa_cons (pv 2) pa_nil))))))))))) (pss_one (ps_ret pe_bl)) pss_nil)))
    (pss_one (ps_ret pe_bl))))))))))))))))))), ?_⟩
    refine ⟨.ref a, rfl, a, rfl, ⟨_, hS⟩, fun U nU => ?_⟩
    refine lc_list (K := K) (a := a) (xs := ns.map V.int) (fun n H' => Same H H' ∧ ∃ ms : List Int, H' U = some (.lst (ms.map V.int)) ∧ ms.length = n) ⟨same_new nU, [], upd_same, rfl⟩ (fun n H' _ h => ?_) (fun n x H' ex h => ?_) (fun H1 h => ?_)
    · rcases hS with (h2 | ⟨o, h2⟩) | h2
      · exact .inl (.inl (h.1 _ _ h2))
      · exact .inl (.inr ⟨o, h.1 _ _ h2⟩)
      · exact .inr h2
    · obtain ⟨s1, ms, hU, lm⟩ := h
      have ltn := (List.getElem?_eq_some_iff.mp ex).1
      rw [List.length_map] at ltn
      obtain ⟨c, rfl⟩ : ∃ c, x = V.int c := by
        rw [List.getElem?_map] at ex
        cases e : ns[n]? with
        | none => rw [e] at ex; cases ex
        | some c => rw [e] at ex; exact ⟨c, (Option.some.inj ex).symm⟩
      refine ⟨wipe_one _ _ _, yes_on ?_⟩
      have fin : ∀ y : Int, ∃ acc, H' U = some (.lst acc) ∧ acc.length < sizeLine ∧ Same H (upd H' U (.lst (acc ++ [V.int y]))) ∧ ∃ ms : List Int, (upd H' U (.lst (acc ++ [V.int y]))) U = some (.lst (ms.map V.int)) ∧ ms.length = n + 1 := fun y => ⟨_, hU, small (by rw [List.length_map]; omega), same_upd2 s1 nU, ms ++ [y], by rw [upd_same, List.map_append]; rfl, by rw [List.length_append, lm]; rfl⟩
      refine ⟨.int c, rfl, _, _, rfl, rfl, _, rfl, ite2 (fun z => ?_) (fun z => ?_)⟩
      · exact ⟨.int c, rfl, .inl ⟨c, rfl, fin c⟩⟩
      · exact ⟨.int c, rfl, .inl ⟨c, rfl, _, _, rfl, rfl, .inl ⟨by decide, by decide⟩, _, _, rfl, rfl, fin _⟩⟩
    obtain ⟨s1, ms, hU, lm⟩ := h
    rw [List.length_map] at lm
    refine ⟨small' (by simp), fun Tp nTp => ?_⟩
    have sT := same_new (o := .lst [V.ref U, V.int 0, V.int 17]) nTp
    have hTp : (upd H1 Tp (.lst [V.ref U, V.int 0, V.int 17])) Tp = some (.lst [V.ref U, V.int 0, V.int 17]) := upd_same
    have TU : Tp ≠ U := fun e => by rw [e, hU] at nTp; cases nTp
    generalize upd H1 Tp (.lst [V.ref U, V.int 0, V.int 17]) = H2 at sT hTp ⊢
    have t2 : Tape Tp U H2 := ⟨TU, ms, 0, 17, by decide, by decide, by decide, by omega, hTp, sT _ _ hU⟩
    have b2 := (hB.ext s1).ext sT
    refine ⟨.ref Tp, rfl, Tp, U, rfl, t2, fun r a' l ts H3 d3 al l2 l3 tk ha hr => ?_⟩
    refine ⟨r, _, rfl, .inl (.inl hr), rfl, .str l, _, rfl, .ref a', _, rfl, rfl, ?_⟩
    have b3 := tabs_drawn t2 d3 b2
    have lts : (ts.map V.str).length = ts.length := List.length_map ..
    have tk1 := tk.one
    have tk4 := tk.four
    refine ⟨.ref Tp, rfl, .ref a', rfl, a', _, rfl, .inr (.inl (.inl ha)), Tp, U, ts.length, by rw [lts]; rfl, d3.2, tk1, by omega, fun b n fin tab H4 d4 hB4 n1 n3 tl hrow fl => ?_⟩
    have b4 := tabs_drawn d3.2 d4 b3
    have ha4 := tup_drawn d3.2 d4 ha
    refine ⟨small' (by simp), fun m0 nm0 => ?_⟩
    have sm := same_new (o := .tup [V.str "behind", V.str "healed"]) nm0
    have hm0 : (upd H4 m0 (.tup [V.str "behind", V.str "healed"])) m0 = some (.tup [V.str "behind", V.str "healed"]) := upd_same
    have d5 := (Drawn2.refl d4.2).same sm
    have b5 := b4.ext sm
    generalize upd H4 m0 (.tup [V.str "behind", V.str "healed"]) = H5 at sm hm0 d5 b5 ⊢
    refine ⟨.ref Tp, rfl, Tp, U, 2, rfl, d5.2, by decide, by decide, fun r5 H6 r50 r51 d6 => ?_⟩
    obtain ⟨hl, ehl⟩ : ∃ hl, atI [V.str "behind", V.str "healed"] r5 = some (.str (modeS hl)) := by
      have : r5 = 0 ∨ r5 = 1 := by omega
      rcases this with rfl | rfl
      · exact ⟨false, (atI_nat (j := 0) rfl : atI _ ((0 : Nat) : Int) = _)⟩
      · exact ⟨true, (atI_nat (j := 1) rfl : atI _ ((1 : Nat) : Int) = _)⟩
    refine ⟨m0, _, r5, _, rfl, rfl, .inl (.inl (tup_drawn d5.2 d6 hm0)), ehl, ?_⟩
    have b6 := tabs_drawn d5.2 d6 b5
    have d46 := d5.trans d6
    have ha6 := tup_drawn d4.2 d46 ha4
    have hB6 := bk_drawn d4.2 d46 hB4
    refine ⟨.ref Tp, rfl, .ref a', rfl, Tp, U, a', ts, 5, rfl, d6.2, tk, ha6, by decide, fun bs H7 d7 abs lbs => ?_⟩
    have b7 := tabs_drawn d6.2 d7 b6
    refine ⟨.str bs, rfl, .ref Tp, rfl, .str bs, rfl, bs, rfl, small' (by omega), _, _, rfl, rfl, Tp, U, (bs.length : Int) + 1, rfl, d7.2, by omega, by omega, fun r8 H8 r80 r81 d8 => ?_⟩
    have b8 := tabs_drawn d7.2 d8 b7
    have scut := slice_le bs (i := r8) r80
    refine ⟨r8, rfl, bs, rfl, small' (by omega), ?_⟩
    have acut : abcT (Txt.slice bs none (some r8)) := abc_slice abs r80
    generalize Txt.slice bs none (some r8) = ct at acut scut
    have s2 := slice_le bs (i := 2) (by decide)
    refine ⟨.str ct, rfl, .str bs, rfl, .ref Tp, rfl, .str bs, rfl, 2, rfl, bs, rfl, small' (by omega), .str l, rfl, Tp, U, Txt.slice bs none (some 2), l, 3, rfl, d8.2, abc_slice abs (by decide), al, by omega, by omega, by omega, by decide, fun sp9 H9 d9 asp lsp => ⟨small' (by simp), fun g0 ng0 => ?_⟩⟩
    have sg := same_new (o := .tup [V.str ct, V.str bs, V.str sp9, V.str ""]) ng0
    have hg0 : (upd H9 g0 (.tup [V.str ct, V.str bs, V.str sp9, V.str ""])) g0 = some (.tup [V.str ct, V.str bs, V.str sp9, V.str ""]) := upd_same
    have d9' := (Drawn2.refl d9.2).same sg
    have b9 := (tabs_drawn d8.2 d9 b8).ext sg
    generalize upd H9 g0 (.tup [V.str ct, V.str bs, V.str sp9, V.str ""]) = H9' at sg hg0 d9' b9 ⊢
    refine ⟨.ref Tp, rfl, Tp, U, 4, rfl, d9'.2, by decide, by decide, fun r10 H10 r100 r101 d10 => ?_⟩
    obtain ⟨g, eg, ag, lg⟩ : ∃ g, atI [V.str ct, V.str bs, V.str sp9, V.str ""] r10 = some (.str g) ∧ abcT g ∧ g.length ≤ 5 := by
      have : r10 = 0 ∨ r10 = 1 ∨ r10 = 2 ∨ r10 = 3 := by omega
      rcases this with rfl | rfl | rfl | rfl
      · exact ⟨ct, (atI_nat (j := 0) rfl : atI _ ((0 : Nat) : Int) = _), acut, by omega⟩
      · exact ⟨bs, (atI_nat (j := 1) rfl : atI _ ((1 : Nat) : Int) = _), abs, by omega⟩
      · exact ⟨sp9, (atI_nat (j := 2) rfl : atI _ ((2 : Nat) : Int) = _), asp, by omega⟩
      · exact ⟨"", (atI_nat (j := 3) rfl : atI _ ((3 : Nat) : Int) = _), abc_nil, by decide⟩
    refine ⟨g0, _, r10, _, rfl, rfl, .inl (.inl (tup_drawn d9'.2 d10 hg0)), eg, ?_⟩
    have b10 := tabs_drawn d9'.2 d10 b9
    have d610 := (((d7.trans d8).trans d9).trans d9').trans d10
    have ha10 := tup_drawn d6.2 d610 ha6
    have hB10 := bk_drawn d6.2 d610 hB6
    obtain ⟨Ta, eTa⟩ : ∃ Ta : K58.Ta, Ta = ⟨ts, n, fin, tab, g, hl⟩ := ⟨_, rfl⟩
    have ok : Ta.Ok := by
      rw [eTa]
      exact ⟨n1, tl, hrow, tk1, Nat.le_succ_of_le tk4, fun z hz => ⟨(tk.some z hz).1, by have := (tk.some z hz).2.1; omega⟩, tk.nd, by show g.length ≤ 200; omega⟩
    have most := most_le (T := Ta) (by rw [eTa]; exact tk) (by rw [eTa]; exact n3) (by rw [eTa]; exact lg)
    refine ⟨.ref a', rfl, .ref b, rfl, .str g, rfl, .str (modeS hl), rfl, a', b, Ta, by rw [eTa]; rfl, by rw [eTa]; exact .inl (.inl ha10), by rw [eTa]; exact hB10, ok, by omega, b10, fun v H11 Ps A e11 b11 ips ias lP lA hv hsp => ?_⟩
    have tkT : Toks Ta.ts := by rw [eTa]; exact tk
    have lP2 : Ps.length ≤ 216 := Nat.le_trans (few_places ips.nd fun p hp => reach_in ok ((ips.mem p).mp hp)) most
    have lA2 : A.length ≤ 1944 := by
      have h1 := arcs_len ips ias
      have h2 : Ps.length * (1 + 2 * Ta.ts.length) ≤ 216 * 9 := Nat.mul_le_mul lP2 (by have := tkT.four; omega)
      omega
    have low := low_pl ok tkT ips
    have t11 := tape_ext e11 d10.2
    have ha11 : H11 a' = some (.tup (Ta.ts.map V.str)) := by rw [eTa]; exact e11 _ _ ha10 fun ps z => (by cases z)
    have hB11 : BkAt K H11 b Ta.bk := by rw [eTa]; exact bk_ext e11 hB10
    have eg8 : g = Ta.g := by rw [eTa]
    have em8 : modeS hl = modeS Ta.hl := by rw [eTa]
    have ets : ts = Ta.ts := by rw [eTa]
    have ecnt : n = Ta.count := by rw [eTa]
    have agT : abcT Ta.g := by rw [← eg8]; exact ag
    have lgT : Ta.g.length ≤ 5 := by rw [← eg8]; exact lg
    rw [eg8, em8]
    clear eTa
    obtain ⟨q0, p0, f0, a0, vp, va, rfl, hq0, hp0, hP, hf0, ha0, hva⟩ := _root_.id hsp
    have lvp : vp.length = Ps.length := Paired.length hP
    refine ⟨fun σ' H12 => Same H11 H12 ∧ σ' = [some (.ref a), some (.ref Tp), some (.str l), some (.ref a'), some (.ref b), some (.str (modeS Ta.hl)), some (.str bs), some (.str ct), some (.str Ta.g), some (.ref q0), none, none, none, none, none, none, none, none, none, none, none, none], ?_, fun σ' H12 h => ?_⟩
    · obtain ⟨fb, tb, tv, k1, k2, k3, k4⟩ := _root_.id hB11
      refine ⟨.ref q0, rfl, .ref a', rfl, a', _, rfl, .inr (.inl (.inl ha11)), .ref b, rfl, b, _, 0, .int (Ta.count : Nat), rfl, rfl, k1, rfl, q0, Ta, Ps, A, by rw [List.length_map]; rfl, hv, ok, by omega, ips, ias, by omega, by omega, ⟨true, rfl, if_ff ?_⟩⟩
      have f0 := first_place ok ips
      obtain ⟨v0, vr, evp⟩ : ∃ v0 vr, vp = v0 :: vr := by
        cases vp with
        | nil =>
          have := (List.getElem?_eq_some_iff.mp f0).1
          rw [← lvp] at this
          cases this
        | cons v0 vr => exact ⟨v0, vr, rfl⟩
      obtain ⟨r0, er0, hr0⟩ := pls_get hP (show vp[0]? = some v0 by rw [evp]; rfl) f0
      have one : ∀ (bb : Addr) (H' : Hp), Same H11 H' → SqT K H' bb [v0] → Dp K H' (.ref bb) (.tuple [plD ⟨0, 0, ""⟩]) := fun bb H' s' h' => .tup h' (.cons (by rw [er0]; exact .tup (.inl (.inl (s' _ _ hr0))) (.cons (.int _) (.cons (.int _) (.cons (.str _) .nil)))) .nil)
      refine ⟨.ref q0, rfl, q0, _, 0, .ref p0, rfl, rfl, .inl (.inl hq0), rfl, 1, rfl, p0, vp, rfl, .inl (.inl hp0), fun whole => ?_, fun part bb nb => ?_⟩
      · have e1 : vp.length = 1 := by
          have w2 := whole.2
          rw [show (some (1 : Int)) = some ((1 : Nat) : Int) from rfl, HT.sIx_nat] at w2
          have : 0 < vp.length := by rw [evp]; exact Nat.succ_pos _
          omega
        have hbb : SqT K H11 p0 [v0] := by
          have : vr = [] := List.eq_nil_of_length_eq_zero (by rw [evp] at e1; simpa using e1)
          rw [this] at evp
          rw [← evp]
          exact .inl (.inl hp0)
        refine ⟨small' (by simp), fun z1 nz1 => ?_⟩
        have sz1 := same_new (o := .tup [V.int 0, V.int 0, V.str ""]) nz1
        have hz1 : (upd H11 z1 (.tup [V.int 0, V.int 0, V.str ""])) z1 = some (.tup [V.int 0, V.int 0, V.str ""]) := upd_same
        generalize upd H11 z1 (.tup [V.int 0, V.int 0, V.str ""]) = G1 at sz1 hz1 ⊢
        refine ⟨small' (by simp), fun z2 nz2 => ?_⟩
        have sz2 := same_new (o := .tup [V.ref z1]) nz2
        have hz2 : (upd G1 z2 (.tup [V.ref z1])) z2 = some (.tup [V.ref z1]) := upd_same
        generalize upd G1 z2 (.tup [V.ref z1]) = G2 at sz2 hz2 ⊢
        have sG : Same H11 G2 := sz1.trans sz2
        refine ⟨.ref p0, .ref z2, .tuple [plD ⟨0, 0, ""⟩], rfl, one p0 G2 sG (seqT_grow (sz1.trans sz2) hbb), .tup (.inl (.inl hz2)) (.cons (.tup (.inl (.inl (sz2 _ _ hz1))) (.cons (.int _) (.cons (.int _) (.cons (.str _) .nil)))) .nil), ok_first, fun G3 s3 => ⟨true, rfl, if_ff ⟨sG.trans s3, rfl⟩⟩⟩
      · have ec : cutV vp none (some 1) = [v0] := by
          unfold cutV
          rw [show (some (1 : Int)) = some ((1 : Nat) : Int) from rfl, HT.sIx_nat, HT.sIx_none, evp]
          have : min 1 (v0 :: vr).length = 1 := by rw [List.length_cons]; omega
          rw [this]
          rfl
        rw [ec]
        have sb := same_new (o := .tup [v0]) nb
        have hbb' : (upd H11 bb (.tup [v0])) bb = some (.tup [v0]) := upd_same
        generalize upd H11 bb (.tup [v0]) = G0 at sb hbb' ⊢
        have hbb : SqT K G0 bb [v0] := .inl (.inl hbb')
        refine ⟨small' (by simp), fun z1 nz1 => ?_⟩
        have sz1 := same_new (o := .tup [V.int 0, V.int 0, V.str ""]) nz1
        have hz1 : (upd G0 z1 (.tup [V.int 0, V.int 0, V.str ""])) z1 = some (.tup [V.int 0, V.int 0, V.str ""]) := upd_same
        generalize upd G0 z1 (.tup [V.int 0, V.int 0, V.str ""]) = G1 at sz1 hz1 ⊢
        refine ⟨small' (by simp), fun z2 nz2 => ?_⟩
        have sz2 := same_new (o := .tup [V.ref z1]) nz2
        have hz2 : (upd G1 z2 (.tup [V.ref z1])) z2 = some (.tup [V.ref z1]) := upd_same
        generalize upd G1 z2 (.tup [V.ref z1]) = G2 at sz2 hz2 ⊢
        have sG : Same H11 G2 := (sb.trans sz1).trans sz2
        refine ⟨.ref bb, .ref z2, .tuple [plD ⟨0, 0, ""⟩], rfl, one bb G2 sG (seqT_grow (sz1.trans sz2) hbb), .tup (.inl (.inl hz2)) (.cons (.tup (.inl (.inl (sz2 _ _ hz1))) (.cons (.int _) (.cons (.int _) (.cons (.str _) .nil)))) .nil), ok_first, fun G3 s3 => ⟨true, rfl, if_ff ⟨sG.trans s3, rfl⟩⟩⟩
    obtain ⟨s12, rfl⟩ := h
    have at3 : ∀ (b0 b1 b2 : V), atI [b0, b1, b2] 0 = some b0 ∧ atI [b0, b1, b2] 1 = some b1 ∧ atI [b0, b1, b2] 2 = some b2 := fun b0 b1 b2 => ⟨(atI_nat (j := 0) rfl : atI _ ((0 : Nat) : Int) = _), (atI_nat (j := 1) rfl : atI _ ((1 : Nat) : Int) = _), (atI_nat (j := 2) rfl : atI _ ((2 : Nat) : Int) = _)⟩
    refine ⟨.ref q0, rfl, q0, _, rfl, .inl (.inl (s12 _ _ hq0)), rfl, .ref p0, _, rfl, .ref f0, _, rfl, .ref a0, _, rfl, rfl, ?_⟩
    refine ⟨.ref p0, rfl, p0, _, rfl, .inr (.inl (.inl (s12 _ _ hp0))), (vp.length : Nat), rfl, by omega, by omega, fun EN nEN => ?_⟩
    refine lc_range (lo := 0) (n := ((vp.length : Nat) : Int).toNat) (fun k H' => Same H12 H' ∧ H' EN = some (.lst (((List.range k).filter (endB Ta Ps)).map fun q => V.int (q : Nat)))) ⟨same_new nEN, upd_same⟩ (fun k H' lt h => ?_) (fun H13 h => ?_)
    · obtain ⟨sE, hE⟩ := h
      rw [Int.toNat_natCast, lvp] at lt
      refine ⟨wipe_one _ _ _, ?_⟩
      rw [Int.zero_add]
      have epi : Ps[k]? = some Ps[k] := List.getElem?_eq_getElem lt
      generalize Ps[k] = pi at epi
      have evp : vp[k]? = some (vp[k]'(by omega)) := List.getElem?_eq_getElem _
      generalize vp[k]'(by omega) = xv at evp
      obtain ⟨r, rfl, hr1⟩ := pls_get hP evp epi
      obtain ⟨t0, t1, t2'⟩ := at3 (.int (pi.i : Nat)) (.int pi.b) (.str pi.u)
      have hp0' := sE _ _ (s12 _ _ hp0)
      have hr' := sE _ _ (s12 _ _ hr1)
      have eB : endB Ta Ps k = (decide (pi.i = Ta.g.length) && decide (pi.u = "")) := by unfold endB; rw [epi]
      have no : endB Ta Ps k = false → Same H12 H' ∧ H' EN = some (.lst (((List.range (k + 1)).filter (endB Ta Ps)).map fun q => V.int (q : Nat))) := fun e => ⟨sE, by rw [range_filter_succ, e, if_neg (by decide), List.append_nil]; exact hE⟩
      refine ⟨.ref p0, rfl, .int (k : Nat), rfl, p0, vp, (k : Nat), .ref r, rfl, rfl, .inl (.inl hp0'), atI_nat evp, r, _, 0, .int (pi.i : Nat), rfl, rfl, .inl (.inl hr'), t0, .str Ta.g, rfl, Ta.g, rfl, small' (by omega), rfl, ?_⟩
      by_cases c1 : pi.i = Ta.g.length
      · refine ⟨true, by rw [c1, decide_eq_true rfl], if_tt ?_⟩
        refine ⟨.ref p0, rfl, .int (k : Nat), rfl, p0, vp, (k : Nat), .ref r, rfl, rfl, .inl (.inl hp0'), atI_nat evp, r, _, 2, .str pi.u, rfl, rfl, .inl (.inl hr'), t2', rfl, ?_⟩
        by_cases c2 : pi.u = ""
        · refine ⟨true, by rw [c2, decide_eq_true rfl], if_tt ?_⟩
          refine ⟨.int (k : Nat), rfl, _, hE, small (by
            rw [List.length_map]
            have := List.length_filter_le (endB Ta Ps) (List.range k)
            rw [List.length_range] at this
            omega), same_upd2 sE nEN, ?_⟩
          rw [upd_same, range_filter_succ, eB, decide_eq_true c1, decide_eq_true c2, if_pos (by rfl), List.map_append]
          rfl
        · refine ⟨false, by rw [decide_eq_false (fun e => c2 (V.str.inj e))], if_ff (no ?_)⟩
          rw [eB, decide_eq_false c2, Bool.and_false]
      · refine ⟨false, by rw [decide_eq_false (fun e => c1 (by have := V.int.inj e; omega))], if_ff (if_ff (no ?_))⟩
        rw [eB, decide_eq_false c1, Bool.false_and]
    obtain ⟨sE, hE⟩ := h
    rw [Int.toNat_natCast, lvp] at hE
    have hf13 := sE _ _ (s12 _ _ hf0)
    have efz : ∀ l : List Nat, (l.map fun k => V.int (k : Nat)) = (l.map fun k : Nat => (k : Int)).map V.int := fun l => by rw [List.map_map]; rfl
    refine ⟨.ref f0, rfl, f0, _, rfl, .inr (.inl (.inl hf13)), fun FL nFL => ?_⟩
    have sFL := same_new (o := .lst ((finsOf Ta Ps).map fun k => V.int (k : Nat))) nFL
    have hFL : (upd H13 FL (.lst ((finsOf Ta Ps).map fun k => V.int (k : Nat)))) FL = some (.lst ((finsOf Ta Ps).map fun k => V.int (k : Nat))) := upd_same
    generalize upd H13 FL (.lst ((finsOf Ta Ps).map fun k => V.int (k : Nat))) = H14 at sFL hFL ⊢
    have s1114 := (s12.trans sE).trans sFL
    have hE14 := sFL _ _ hE
    generalize ees : (List.range Ps.length).filter (endB Ta Ps) = es at hE hE14
    have esl : ∀ k ∈ es, k < Ps.length := fun k hk => by rw [← ees] at hk; exact List.mem_range.mp (List.mem_filter.mp hk).1
    have esn : es.length ≤ 216 := by
      rw [← ees]
      have := List.length_filter_le (endB Ta Ps) (List.range Ps.length)
      rw [List.length_range] at this
      omega
    obtain ⟨fb, tb, tv, k1, k2, k3, k4⟩ := _root_.id hB11
    refine ⟨.ref EN, rfl, EN, rfl, ⟨_, .inl (.inl hE14)⟩, fun GN nGN => ?_⟩
    refine lc_list (K := K) (a := EN) (xs := es.map fun q => V.int (q : Nat)) (fun n H' => Same H14 H' ∧ H' GN = some (.lst (((es.take n).filter (finB Ta Ps)).map fun q => V.int (q : Nat)))) ⟨same_new nGN, upd_same⟩ (fun n H' _ h => .inl (.inl (h.1 _ _ hE14))) (fun n x H' ex h => ?_) (fun H15 h => ?_)
    · obtain ⟨sG, hG⟩ := h
      obtain ⟨qn, eqn, rfl⟩ : ∃ qn, es[n]? = some qn ∧ V.int (qn : Nat) = x := by
        rw [List.getElem?_map] at ex
        cases e : es[n]? with
        | none => rw [e] at ex; cases ex
        | some qn => rw [e] at ex; exact ⟨qn, rfl, Option.some.inj ex⟩
      have lt := esl qn (List.mem_of_getElem? eqn)
      refine ⟨wipe_one _ _ _, ?_⟩
      have epi : Ps[qn]? = some Ps[qn] := List.getElem?_eq_getElem lt
      generalize Ps[qn] = pi at epi
      have evp : vp[qn]? = some (vp[qn]'(by omega)) := List.getElem?_eq_getElem _
      generalize vp[qn]'(by omega) = xv at evp
      obtain ⟨r, rfl, hr1⟩ := pls_get hP evp epi
      obtain ⟨t0, t1, t2'⟩ := at3 (.int (pi.i : Nat)) (.int pi.b) (.str pi.u)
      have hp0' := sG _ _ (s1114 _ _ hp0)
      have hr' := sG _ _ (s1114 _ _ hr1)
      have eF : finB Ta Ps qn = decide (pi.b ∈ Ta.fin) := by unfold finB; rw [epi]
      have sAll := s1114.trans sG
      refine ⟨.ref p0, rfl, .int (qn : Nat), rfl, p0, vp, (qn : Nat), .ref r, rfl, rfl, .inl (.inl hp0'), atI_nat evp, r, _, 1, .int pi.b, rfl, rfl, .inl (.inl hr'), t1, .ref b, rfl, b, _, 1, .ref fb, rfl, rfl, seqT_grow sAll k1, rfl, fb, _, rfl, .inr (seqT_grow sAll k2), rfl, flat_ints _, decide (pi.b ∈ Ta.fin), (by show V.bl (inV _ _) = V.bl _; rw [inV_ints]; rfl), ?_⟩
      rw [take_snoc eqn, filter_snoc, eF]
      by_cases c : pi.b ∈ Ta.fin
      · rw [decide_eq_true c]
        refine if_tt ⟨.int (qn : Nat), rfl, _, hG, small (by
          rw [List.length_map]
          have h1 := List.length_filter_le (finB Ta Ps) (es.take n)
          have h2 := List.length_take_le n es
          have h3 : (es.take n).length ≤ es.length := by rw [List.length_take]; omega
          omega), same_upd2 sG nGN, ?_⟩
        rw [upd_same, if_pos rfl, List.map_append]
        rfl
      · rw [decide_eq_false c]
        refine if_ff ⟨sG, ?_⟩
        rw [if_neg (by decide), List.append_nil]
        exact hG
    obtain ⟨sG, hG⟩ := h
    rw [List.length_map, List.take_length] at hG
    have efin : es.filter (finB Ta Ps) = finsOf Ta Ps := by
      rw [← ees]
      exact (fins_twice Ta Ps).symm
    rw [efin] at hG
    have hFL15 := sG _ _ hFL
    rw [efz] at hG hFL15
    refine ⟨.list (((finsOf Ta Ps).map fun k : Nat => (k : Int)).map PyData.int), .list (((finsOf Ta Ps).map fun k : Nat => (k : Int)).map PyData.int), .lst (.inl (.inl hFL15)) (dp_intL _), .lst (.inl (.inl hG)) (dp_intL _), shaped_ints _, shaped_ints _, false, by rw [eqv_ints]; rfl, ?_⟩
    refine if_ff ?_
    have s1115 := s1114.trans sG
    have b15 := b11.ext s1115
    refine ⟨.ref a', rfl, .ref b, rfl, .str Ta.g, rfl, .str (modeS Ta.hl), rfl, a', b, Ta, rfl, .inl (.inl (s1115 _ _ ha11)), hB11.grow s1115, ok, by omega, b15, fun v2 H16 Ps2 A2 e16 t16 ips2 ias2 lP' lA' hv2 => ?_⟩
    have e1 := ps_one ips2 ips
    subst e1
    have e2 := as_one ias2 ias
    subst e2
    have eX : LamX.ExtN H11 H16 := (LamX.ExtN.of s1115).trans e16
    have kX : ∀ b xs, H11 b = some (.tup xs) → H16 b = some (.tup xs) := fun b xs z => eX _ _ z fun ps y => (by cases y)
    have tp16 := tape_ext eX t11
    have ha16 := kX _ _ ha11
    have hB16 := bk_ext eX hB11
    have hsp16 := sp_ext eX hsp
    have hp16 := kX _ _ hp0
    have hP16 := pls_keep kX hP
    have hA16 := kX _ _ ha0
    have hva16 := a4_keep kX hva
    obtain ⟨m, ma, vm, rfl, hm, hma, hvm⟩ := dp_pr hv2
    have lva : va.length = A2.length := Paired.length hva
    refine ⟨.ref a0, rfl, a0, rfl, ⟨_, .inl (.inl hA16)⟩, fun DL nDL => ?_⟩
    refine lc_tup (K := K) (a := a0) (xs := va) (fun n H' => Same H16 H' ∧ ∃ uc, H' DL = some (.lst uc) ∧ Paired (C4At H') uc (A2.take n)) ⟨same_new nDL, [], upd_same, .nil⟩ (fun n H' _ h => .inl (.inl (h.1 _ _ hA16))) (fun n x H' ex h => ?_) (fun H17 h => ?_)
    · obtain ⟨s7, uc, hC, hPc⟩ := h
      have ltn := (List.getElem?_eq_some_iff.mp ex).1
      have ea : A2[n]? = some (A2[n]'(by omega)) := List.getElem?_eq_getElem _
      generalize A2[n]'(by omega) = ar at ea
      obtain ⟨q1, rfl, hq1'⟩ : A4At H16 x ar := by
        have := paired_zip hva16 (x, ar) (List.mem_of_getElem? (i := n) (by rw [List.getElem?_zip_eq_some]; exact ⟨ex, ea⟩))
        exact this
      have hq1 := s7 _ _ hq1'
      have luc : uc.length ≤ 2000 := by
        have h1 := Paired.length hPc
        rw [List.length_take] at h1
        omega
      have at4 : ∀ (b0 b1 b2 b3 : V), atI [b0, b1, b2, b3] 0 = some b0 ∧ atI [b0, b1, b2, b3] 1 = some b1 ∧ atI [b0, b1, b2, b3] 2 = some b2 ∧ atI [b0, b1, b2, b3] 3 = some b3 := fun b0 b1 b2 b3 => ⟨(atI_nat (j := 0) rfl : atI _ ((0 : Nat) : Int) = _), (atI_nat (j := 1) rfl : atI _ ((1 : Nat) : Int) = _), (atI_nat (j := 2) rfl : atI _ ((2 : Nat) : Int) = _), (atI_nat (j := 3) rfl : atI _ ((3 : Nat) : Int) = _)⟩
      obtain ⟨t0, t1, t2', t3⟩ := at4 (.int (ar.k : Nat)) (.str ar.l) (.int (ar.j : Nat)) (.int ar.t)
      have sq1 : SqT K H' q1 [.int (ar.k : Nat), .str ar.l, .int (ar.j : Nat), .int ar.t] := .inl (.inl hq1)
      have fin : ∀ c : Int, c = costT ar.t → ∀ p, H' p = none → ∃ acc, (upd H' p (.tup [V.int (ar.k : Nat), V.str ar.l, V.int (ar.j : Nat), V.int c])) DL = some (.lst acc) ∧ acc.length < sizeLine ∧
          (Same H16 (upd (upd H' p (.tup [V.int (ar.k : Nat), V.str ar.l, V.int (ar.j : Nat), V.int c])) DL (.lst (acc ++ [.ref p]))) ∧ ∃ uc, (upd (upd H' p (.tup [V.int (ar.k : Nat), V.str ar.l, V.int (ar.j : Nat), V.int c])) DL (.lst (acc ++ [.ref p]))) DL = some (.lst uc) ∧ Paired (C4At (upd (upd H' p (.tup [V.int (ar.k : Nat), V.str ar.l, V.int (ar.j : Nat), V.int c])) DL (.lst (acc ++ [.ref p])))) uc (A2.take (n + 1))) := fun c ec p np => by
        subst ec
        have sp := same_new (o := .tup [V.int (ar.k : Nat), V.str ar.l, V.int (ar.j : Nat), V.int (costT ar.t)]) np
        have hp : (upd H' p (.tup [V.int (ar.k : Nat), V.str ar.l, V.int (ar.j : Nat), V.int (costT ar.t)])) p = some (.tup [V.int (ar.k : Nat), V.str ar.l, V.int (ar.j : Nat), V.int (costT ar.t)]) := upd_same
        generalize upd H' p (.tup [V.int (ar.k : Nat), V.str ar.l, V.int (ar.j : Nat), V.int (costT ar.t)]) = H8 at sp hp ⊢
        have hC8 := sp _ _ hC
        have kt : ∀ b xs, H8 b = some (.tup xs) → (upd H8 DL (.lst (uc ++ [.ref p]))) b = some (.tup xs) := fun b xs e => tup_upd hC8 e
        refine ⟨uc, hC8, big (by omega), same_upd2 (s7.trans sp) nDL, uc ++ [.ref p], upd_same, ?_⟩
        rw [take_snoc ea]
        exact Paired.snoc (c4_keep (fun b xs e => kt _ _ (sp _ _ e)) hPc) ⟨p, rfl, kt _ _ hp⟩
      refine ⟨wipe_one _ _ _, yes_on ?_⟩
      refine ⟨.ref q1, rfl, q1, _, 0, .int (ar.k : Nat), rfl, rfl, sq1, t0, .ref q1, rfl, q1, _, 1, .str ar.l, rfl, rfl, sq1, t1, .ref q1, rfl, q1, _, 2, .int (ar.j : Nat), rfl, rfl, sq1, t2', .ref q1, rfl, q1, _, 3, .int ar.t, rfl, rfl, sq1, t3, _, _, rfl, rfl, _, rfl, ite2 (fun z => ?_) (fun z => ?_)⟩
      · exact ⟨small' (by simp), fun p np => fin 1 (by unfold costT; rw [if_pos (of_decide_eq_true z)]) p np⟩
      · exact ⟨small' (by simp), fun p np => fin 0 (by unfold costT; rw [if_neg (fun h => z (decide_eq_true h))]) p np⟩
    obtain ⟨s17, uc, hDL, hPc⟩ := h
    rw [lva, List.take_length] at hPc
    refine ⟨.ref m, rfl, .ref p0, rfl, p0, _, rfl, .inr (.inl (.inl (s17 _ _ hp16))), .ref DL, rfl, DL, _, rfl, .inl ⟨.inl (.inl hDL), fun T3 nT3 => ?_⟩⟩
    have c3 := same_new (o := .tup uc) nT3
    have hT3 : (upd H17 T3 (.tup uc)) T3 = some (.tup uc) := upd_same
    generalize upd H17 T3 (.tup uc) = H18 at c3 hT3 ⊢
    rw [lvp]
    refine ⟨small' (by simp), fun T4 nT4 => ?_⟩
    have c4 := same_new (o := .tup [V.int (Ps2.length : Nat), V.ref T3]) nT4
    have hT4 : (upd H18 T4 (.tup [V.int (Ps2.length : Nat), V.ref T3])) T4 = some (.tup [V.int (Ps2.length : Nat), V.ref T3]) := upd_same
    generalize upd H18 T4 (.tup [V.int (Ps2.length : Nat), V.ref T3]) = H19 at c4 hT4 ⊢
    have s1619 := (s17.trans c3).trans c4
    refine ⟨.ref m, .ref T4, prD Ps2 A2, rfl, dp_grow s1619 hv2, .tup (.inl (.inl hT4)) (.cons (.int _) (.cons (.tup (.inl (.inl (c4 _ _ hT3))) (c4_data (c4_keep (fun b xs e => c4 _ _ (c3 _ _ e)) hPc))) .nil)), ok_pr Ps2 (by omega), fun H20 s20 => ⟨true, rfl, if_ff ?_⟩⟩
    have s1620 := s1619.trans s20
    have tp20 : Tape Tp U H20 := ((Drawn2.refl tp16).same s1620).2
    have ha20 := s1620 _ _ ha16
    have hB20 := hB16.grow s1620
    have hsp20 := sp_ext (LamX.ExtN.of s1620) hsp16
    have hp20 := s1620 _ _ hp16
    have hP20 := pls_keep (fun b xs e => s1620 _ _ e) hP16
    have hA20 := s1620 _ _ hA16
    have hva20 := a4_keep (fun b xs e => s1620 _ _ e) hva16
    have hm20 := seqT_grow s1620 hm
    have hma20 := seqT_grow s1620 hma
    have hvm20 := a4s_grow s1620 (a4s_cost hvm)
    refine ⟨4, rfl, by decide, by decide, ?_⟩
    refine for_range0 (n := (4 : Int).toNat) (fun i σ H' => ∃ (y16 y17 y18 : Option V), σ = [some (.ref a), some (.ref Tp), some (.str l), some (.ref a'), some (.ref b), some (.str (modeS Ta.hl)), some (.str bs), some (.str ct), some (.str Ta.g), some (.ref q0), some (.ref p0), some (.ref f0), some (.ref a0), some (.ref EN), some (.ref m), some (.ref DL), y16, y17, y18, none, none, none] ∧ Drawn2 Tp U H20 H')
      ⟨none, none, none, rfl, Drawn2.refl tp20⟩ (fun i σ H' lt h => ?_) (fun σ H' h => ?_)
    · obtain ⟨y16, y17, y18, rfl, d⟩ := h
      refine ⟨.ref Tp, rfl, .ref a', rfl, Tp, U, a', Ta.ts, 6, rfl, d.2, tkT, tup_drawn tp20 d ha20, by decide, fun z1 H21 d21 az1 lz1 => ?_⟩
      have d021 := d.trans d21
      have s4 := slice_le z1 (i := 4) (by decide)
      have as4 : abcT (Txt.slice z1 none (some 4)) := abc_slice az1 (by decide)
      refine ⟨fun σ' H22 => ∃ z2 : Str, abcT z2 ∧ z2.length ≤ 9 ∧ Drawn2 Tp U H20 H22 ∧ σ' = [some (.ref a), some (.ref Tp), some (.str l), some (.ref a'), some (.ref b), some (.str (modeS Ta.hl)), some (.str bs), some (.str ct), some (.str Ta.g), some (.ref q0), some (.ref p0), some (.ref f0), some (.ref a0), some (.ref EN), some (.ref m), some (.ref DL), some (.int (i : Nat)), some (.str z2), y18, none, none, none], ?_, fun σ' H22 h => ?_⟩
      · refine ⟨.str (modeS Ta.hl), rfl, rfl, !Ta.hl, by rw [mode_eq], ?_⟩
        rcases Bool.eq_false_or_eq_true Ta.hl with e | e
        · rw [e]
          refine if_ff ⟨.ref Tp, rfl, Tp, U, 3, rfl, d021.2, by decide, by decide, fun r3 H22 r30 r31 d22 => ⟨_, _, rfl, rfl, _, rfl, ite2 (fun y => ?_) (fun y => ?_)⟩⟩
          · have lb : (bs ++ Txt.slice z1 none (some 4)).length = bs.length + (Txt.slice z1 none (some 4)).length := Str.length_append _ _
            exact ⟨.str bs, rfl, .str z1, rfl, 4, rfl, z1, rfl, small' (by omega), bs, _, rfl, rfl, small' (by omega), bs ++ Txt.slice z1 none (some 4), abc_app abs as4, by omega, d021.trans d22, rfl⟩
          · exact ⟨z1, az1, by omega, d021.trans d22, rfl⟩
        · rw [e]
          have lb : (Ta.g ++ Txt.slice z1 none (some 4)).length = Ta.g.length + (Txt.slice z1 none (some 4)).length := Str.length_append _ _
          exact if_tt ⟨.str Ta.g, rfl, .str z1, rfl, 4, rfl, z1, rfl, small' (by omega), Ta.g, _, rfl, rfl, small' (by omega), Ta.g ++ Txt.slice z1 none (some 4), abc_app agT as4, by omega, d021, rfl⟩
      obtain ⟨z2, az2, lz2, d022, rfl⟩ := h
      obtain ⟨fb', tb', tv', k1', k2', k3', k4'⟩ := bk_drawn tp20 d022 hB20
      refine ⟨.ref Tp, rfl, .str z2, rfl, .str l, rfl, Tp, U, z2, l, 9, rfl, d022.2, az2, al, by omega, l3, lz2, by decide, fun z3 H23 d23 az3 lz3 => ?_⟩
      have d023 := d022.trans d23
      obtain ⟨fb', tb', tv', k1', k2', k3', k4'⟩ := bk_drawn tp20 d023 hB20
      refine ⟨.ref a', rfl, .ref b, rfl, b, _, 2, .ref tb', rfl, rfl, k1', rfl, .str Ta.g, rfl, .str (modeS Ta.hl), rfl, rfl, .str z3, rfl, ?_⟩
      rw [mode_eq2]
      refine ⟨a', tb', tv', Ta, "", z3, 0, rfl, .inl (.inl (tup_drawn tp20 d023 ha20)), k3', k4', ok, tkT.four, by decide, lz3, Int.le_refl 0, by have := ok.cnt; omega, fun _ => .inr ⟨rfl, rfl⟩, fun D H24 s24 ow => ?_⟩
      have d024 := d023.same s24
      have so : StOk Ta (cl "") 0 := ⟨fun i c d h => by rw [cl_nil] at h; simp at h, Int.le_refl 0, fun _ => .inr ⟨rfl, rfl⟩⟩
      have e0 : startP Ta (cl "") 0 = ⟨0, 0, ""⟩ := by unfold startP; rw [cl_nil]; simp
      have tk24 : ∀ b xs, H20 b = some (.tup xs) → H24 b = some (.tup xs) := fun b xs e => tup_drawn tp20 d024 e
      refine ⟨.ref Tp, rfl, .ref m, rfl, .ref p0, rfl, .ref a0, rfl, .str z3, rfl, .ref D, rfl, ?_⟩
      exact ⟨Tp, U, m, ma, p0, a0, D, Ta, Ps2, A2, vm, vp, va, cl "", 0, 0, z3, H23, rfl, d023.2, s24, d024.2, sqT_drawn tp20 d024 hm20, sqT_drawn tp20 d024 hma20, a4s_drawn tp20 d024 hvm20, tk24 _ _ hp20, pls_keep tk24 hP20, .inl (.inl (tk24 _ _ hA20)), a4s_at (a4_keep tk24 hva20), ok, ips, ias, so, by rw [e0]; exact first_place ok ips, abc_textD az3, lz3, by omega, by omega, low, ow, fun H25 d25 => ⟨true, rfl, if_ff ⟨_, _, _, rfl, d024.trans d25⟩⟩⟩
    obtain ⟨y16, y17, y18, rfl, d⟩ := h
    refine ⟨3, rfl, by decide, by decide, ?_⟩
    refine for_range0 (n := (3 : Int).toNat) (fun i σ H2 => ∃ (y16 : Option V), σ = [some (.ref a), some (.ref Tp), some (.str l), some (.ref a'), some (.ref b), some (.str (modeS Ta.hl)), some (.str bs), some (.str ct), some (.str Ta.g), some (.ref q0), some (.ref p0), some (.ref f0), some (.ref a0), some (.ref EN), some (.ref m), some (.ref DL), y16, y17, y18, none, none, none] ∧ Drawn2 Tp U H20 H2)
      ⟨y16, rfl, d⟩ (fun i σ H' lt h => ?_) (fun σ H' h => ?_)
    · obtain ⟨y16, rfl, d⟩ := h
      refine ⟨.ref Tp, rfl, .ref a', rfl, .ref b, rfl, .str Ta.g, rfl, .str (modeS Ta.hl), rfl, .ref m, rfl, .ref q0, rfl, .str l, rfl, ?_⟩
      exact ⟨Tp, U, a', b, m, ma, .ref q0, Ta, Ps2, A2, vm, l, rfl, d.2, tup_drawn tp20 d ha20, tkT, bk_drawn tp20 d hB20, ok, agT, by omega, al, by omega, l3, sp_drawn tp20 d hsp20, sqT_drawn tp20 d hm20, sqT_drawn tp20 d hma20, a4s_drawn tp20 d hvm20, ips, ias, by omega, by omega, low, fun H2 d2 => ⟨true, rfl, if_ff ⟨_, rfl, d.trans d2⟩⟩⟩
    · exact q _
end
end K58
set_option Elab.async false
set_option linter.all false
set_option maxRecDepth 100000
set_option maxHeartbeats 8000000
namespace K58
open PySem PySem.Spec PyProof.Rows L2 Ver
theorem exm_self {K : PySem.W.Frag} {S : Addr} (h1 : PySem.W.subIn K (.ref S) (.type "BaseException") = some true) (h2 : PySem.W.isClsIn K S = true) (h3 : PySem.W.typeIn K (.ref S) = some (.type "type")) (h4 : PySem.W.subIn K (.ref S) (.ref S) = some true) :
    PySem.W.exmOne K (.ref S) (.ref S) = some true := by
  have e1 : (PySem.W.subIn K (.ref S) (.type "BaseException") == some true) = true := by rw [h1] <;> rfl
  have e2 : ((PySem.W.clsIn K S).isSome && PySem.W.typeIn K (.ref S) == some (.type "type")) = true := by
    have h2' : (PySem.W.clsIn K S).isSome = true := h2
    rw [h2', h3] <;> rfl
  show (if (PySem.W.subIn K (.ref S) (.type "BaseException") == some true) = true then (if ((PySem.W.clsIn K S).isSome && PySem.W.typeIn K (.ref S) == some (.type "type")) = true then PySem.W.subIn K (.ref S) (.ref S) else none) else none) = some true
  rw [if_pos e1, if_pos e2]
  exact h4
theorem exm_other {K : PySem.W.Frag} {S D : Addr} (h1 : PySem.W.subIn K (.ref S) (.type "BaseException") = some true) (h2 : PySem.W.isClsIn K S = true) (h3 : PySem.W.typeIn K (.ref S) = some (.type "type")) (h4 : PySem.W.subIn K (.ref D) (.ref S) = some false) :
    PySem.W.exmOne K (.ref D) (.ref S) = some false := by
  have e1 : (PySem.W.subIn K (.ref S) (.type "BaseException") == some true) = true := by rw [h1] <;> rfl
  have e2 : ((PySem.W.clsIn K S).isSome && PySem.W.typeIn K (.ref S) == some (.type "type")) = true := by
    have h2' : (PySem.W.clsIn K S).isSome = true := h2
    rw [h2', h3] <;> rfl
  show (if (PySem.W.subIn K (.ref S) (.type "BaseException") == some true) = true then (if ((PySem.W.clsIn K S).isSome && PySem.W.typeIn K (.ref S) == some (.type "type")) = true then PySem.W.subIn K (.ref D) (.ref S) else none) else none) = some false
  rw [if_pos e1, if_pos e2]
  exact h4

theorem all_mk {l : PySem.W.OpenLaw} {w : World} {K : PySem.W.Frag} {h : Heap} {mg : Str → Option Value} {fa C C1 C2 fI cc cP cd cS : Addr} (X : K.In h) (G : h.Ns mainGlobals mg) (hfa : mg "law" = some (.ref fa))
    {nm qn : Str} {N : Addr} {bs : List Value} {sn : List Str} {sub : List Value} {ab : Bool} {col : Option Bool} {dd : Option Addr} {m0 m1 m2 m3 m5 : Option Value} {ocI dcI pmI cdI ctI : Value} {odI anI : Option Addr} {slI : Array (Option Value)}
    {f0 f1 f2 f3 f4 f5 f6 f7 f8 f9 f10 f11 f12 f13 f14 f15 f16 f17 f18 f19 f20 f21 f22 f23 f24 f25 f26 f27 f28 f29 f30 f31 f32 f33 f34 f35 f36 f37 f38 : Addr}
    {od0 an0 od1 an1 od2 an2 od3 an3 od4 an4 od5 an5 od6 an6 od7 an7 od8 an8 od9 an9 od10 an10 od11 an11 od12 an12 od13 an13 od14 an14 od15 an15 od16 an16 od17 an17 od18 an18 od19 an19 od20 an20 od21 an21 od22 an22 od23 an23 od24 an24 od25 an25 od26 an26 od27 an27 od28 an28 od29 an29 od30 an30 od31 an31 od32 an32 od33 an33 od34 an34 od35 an35 od36 an36 od37 an37 od38 an38 : Option Addr}
    {sl0 sl1 sl2 sl3 sl4 sl5 sl6 sl7 sl8 sl9 sl10 sl11 sl12 sl13 sl14 sl15 sl16 sl17 sl18 sl19 sl20 sl21 sl22 sl23 sl24 sl25 sl26 sl27 sl28 sl29 sl30 sl31 sl32 sl33 sl34 sl35 sl36 sl37 sl38 : Array (Option Value)}
    {oc0 kV0 dc0 pm0 cd0 ct0 oc1 kV1 dc1 pm1 cd1 ct1 oc2 kV2 dc2 pm2 cd2 ct2 oc3 kV3 dc3 pm3 cd3 ct3 oc4 kV4 dc4 pm4 cd4 ct4 oc5 kV5 dc5 pm5 cd5 ct5 oc6 kV6 dc6 pm6 cd6 ct6 oc7 kV7 dc7 pm7 cd7 ct7 oc8 kV8 dc8 pm8 cd8 ct8 oc9 kV9 dc9 pm9 cd9 ct9 oc10 kV10 dc10 pm10 cd10 ct10 oc11 kV11 dc11 pm11 ct11 oc12 kV12 dc12 pm12 cd12 ct12 oc13 kV13 dc13 pm13 cd13 ct13 oc14 kV14 dc14 pm14 cd14 ct14 oc15 kV15 dc15 pm15 ct15 oc16 kV16 dc16 pm16 cd16 ct16 oc17 kV17 dc17 pm17 cd17 ct17 oc18 kV18 dc18 pm18 cd18 ct18 oc19 kV19 dc19 pm19 cd19 ct19 oc20 kV20 dc20 pm20 cd20 ct20 oc21 kV21 dc21 pm21 cd21 ct21 oc22 kV22 dc22 pm22 cd22 ct22 oc23 kV23 dc23 pm23 cd23 ct23 oc24 kV24 dc24 pm24 cd24 ct24 oc25 kV25 dc25 pm25 cd25 ct25 oc26 kV26 dc26 pm26 cd26 ct26 oc27 kV27 dc27 pm27 cd27 ct27 oc28 kV28 dc28 pm28 cd28 ct28 oc29 kV29 dc29 pm29 cd29 ct29 oc30 kV30 dc30 pm30 cd30 ct30 oc31 kV31 dc31 pm31 cd31 ct31 oc32 kV32 dc32 pm32 cd32 ct32 oc33 kV33 dc33 pm33 cd33 ct33 oc34 kV34 dc34 pm34 cd34 ct34 oc35 kV35 dc35 pm35 cd35 ct35 oc36 kV36 dc36 pm36 cd36 ct36 oc37 kV37 dc37 pm37 cd37 ct37 oc38 kV38 dc38 pm38 cd38 ct38 : Value}
    (aC : PySem.W.nsIn K mainGlobals "NotUsable" = some (some (.ref C)))
    (xL : K.lookup C = some (excClassObj nm qn C N bs [.ref C2, .ref C1, .type "ValueError", .type "Exception", .type "BaseException", .type "object"] true sn sub ab col dd m0 m1 m2 m3 m5 "ValueError.__new__"))
    (sa : PySem.W.findIn K (.ref C) "__setattr__" = some (some (.builtin "object.__setattr__"))) (ga : PySem.W.findIn K (.ref C) "__getattribute__" = some (some (.builtin "BaseException.__getattribute__"))) (gg : PySem.W.findIn K (.ref C) "__getattr__" = some none) (nb : PySem.W.findIn K (.ref C) "word" = some none)
    (iC : PySem.W.findIn K (.ref C) "__init__" = some (some (.ref fI))) (tI : PySem.W.typeIn K (.ref fI) = some (.type "function"))
    (lI : K.lookup fI = some ⟨ocI, odI, .func (PySem.W.fnOf "__init__" "NotUsable.__init__" (PySem.NUsX.iA ⟨8, 17, 8, 21⟩ ⟨8, 23, 8, 27⟩) (PySem.NUsX.iB ⟨9, 8, 9, 12⟩ ⟨9, 8, 9, 17⟩ ⟨9, 20, 9, 24⟩ ⟨9, 8, 9, 24⟩) PySem.NUsX.iS .none .none dcI pmI anI cdI ctI), slI⟩) (cI : PySem.W.codeIn K cdI "NotUsable.__init__" = true)
    (kC : PySem.W.keepIn K (.ref C) = true) (eC : PySem.W.subIn K (.ref C) (.type "BaseException") = some true) (tC : PySem.W.typeIn K (.ref C) = some (.type "type")) (hC : PySem.W.hasDictIn K C = true) (clC : PySem.W.isClsIn K C = true) (sC : PySem.W.subIn K (.ref C) (.ref C) = some true)
    (a0 : PySem.W.nsIn K mainGlobals "is_int" = some (some (.ref f0))) (l0 : K.lookup f0 = some ⟨oc0, od0, .func (PySem.W.fnOf "is_int" "is_int" (defArgs s_is_int) (defBody s_is_int) (defScope s_is_int) .none kV0 dc0 pm0 an0 cd0 ct0), sl0⟩) (c0 : PySem.W.codeIn K cd0 "is_int" = true) (k0 : PySem.W.keepIn K (.ref f0) = true)
    (a1 : PySem.W.nsIn K mainGlobals "is_number" = some (some (.ref f1))) (l1 : K.lookup f1 = some ⟨oc1, od1, .func (PySem.W.fnOf "is_number" "is_number" (defArgs s_is_number) (defBody s_is_number) (defScope s_is_number) .none kV1 dc1 pm1 an1 cd1 ct1), sl1⟩) (c1 : PySem.W.codeIn K cd1 "is_number" = true) (k1 : PySem.W.keepIn K (.ref f1) = true)
    (a2 : PySem.W.nsIn K mainGlobals "is_text" = some (some (.ref f2))) (l2 : K.lookup f2 = some ⟨oc2, od2, .func (PySem.W.fnOf "is_text" "is_text" (defArgs s_is_text) (defBody s_is_text) (defScope s_is_text) .none kV2 dc2 pm2 an2 cd2 ct2), sl2⟩) (c2 : PySem.W.codeIn K cd2 "is_text" = true) (k2 : PySem.W.keepIn K (.ref f2) = true)
    (a3 : PySem.W.nsIn K mainGlobals "_is_sign" = some (some (.ref f3))) (l3 : K.lookup f3 = some ⟨oc3, od3, .func (PySem.W.fnOf "_is_sign" "_is_sign" (defArgs s__is_sign) (defBody s__is_sign) (defScope s__is_sign) .none kV3 dc3 pm3 an3 cd3 ct3), sl3⟩) (c3 : PySem.W.codeIn K cd3 "_is_sign" = true) (k3 : PySem.W.keepIn K (.ref f3) = true)
    (a4 : PySem.W.nsIn K mainGlobals "is_below" = some (some (.ref f4))) (l4 : K.lookup f4 = some ⟨oc4, od4, .func (PySem.W.fnOf "is_below" "is_below" (defArgs s_is_below) (defBody s_is_below) (defScope s_is_below) .none kV4 dc4 pm4 an4 cd4 ct4), sl4⟩) (c4 : PySem.W.codeIn K cd4 "is_below" = true) (k4 : PySem.W.keepIn K (.ref f4) = true)
    (a5 : PySem.W.nsIn K mainGlobals "are_below" = some (some (.ref f5))) (l5 : K.lookup f5 = some ⟨oc5, od5, .func (PySem.W.fnOf "are_below" "are_below" (defArgs s_are_below) (defBody s_are_below) (defScope s_are_below) .none kV5 dc5 pm5 an5 cd5 ct5), sl5⟩) (c5 : PySem.W.codeIn K cd5 "are_below" = true) (k5 : PySem.W.keepIn K (.ref f5) = true)
    (a6 : PySem.W.nsIn K mainGlobals "ask_row" = some (some (.ref f6))) (l6 : K.lookup f6 = some ⟨oc6, od6, .func (PySem.W.fnOf "ask_row" "ask_row" (defArgs s_ask_row) (defBody s_ask_row) (defScope s_ask_row) .none kV6 dc6 pm6 an6 cd6 ct6), sl6⟩) (c6 : PySem.W.codeIn K cd6 "ask_row" = true) (k6 : PySem.W.keepIn K (.ref f6) = true)
    (a7 : PySem.W.nsIn K mainGlobals "ask_text" = some (some (.ref f7))) (l7 : K.lookup f7 = some ⟨oc7, od7, .func (PySem.W.fnOf "ask_text" "ask_text" (defArgs s_ask_text) (defBody s_ask_text) (defScope s_ask_text) .none kV7 dc7 pm7 an7 cd7 ct7), sl7⟩) (c7 : PySem.W.codeIn K cd7 "ask_text" = true) (k7 : PySem.W.keepIn K (.ref f7) = true)
    (a8 : PySem.W.nsIn K mainGlobals "ask_below" = some (some (.ref f8))) (l8 : K.lookup f8 = some ⟨oc8, od8, .func (PySem.W.fnOf "ask_below" "ask_below" (defArgs s_ask_below) (defBody s_ask_below) (defScope s_ask_below) .none kV8 dc8 pm8 an8 cd8 ct8), sl8⟩) (c8 : PySem.W.codeIn K cd8 "ask_below" = true) (k8 : PySem.W.keepIn K (.ref f8) = true)
    (a9 : PySem.W.nsIn K mainGlobals "state_after" = some (some (.ref f9))) (l9 : K.lookup f9 = some ⟨oc9, od9, .func (PySem.W.fnOf "state_after" "state_after" (defArgs s_state_after) (defBody s_state_after) (defScope s_state_after) .none kV9 dc9 pm9 an9 cd9 ct9), sl9⟩) (c9 : PySem.W.codeIn K cd9 "state_after" = true) (k9 : PySem.W.keepIn K (.ref f9) = true)
    (a10 : PySem.W.nsIn K mainGlobals "joined" = some (some (.ref f10))) (l10 : K.lookup f10 = some ⟨oc10, od10, .func (PySem.W.fnOf "joined" "joined" (defArgs s_joined) (defBody s_joined) (defScope s_joined) .none kV10 dc10 pm10 an10 cd10 ct10), sl10⟩) (c10 : PySem.W.codeIn K cd10 "joined" = true) (k10 : PySem.W.keepIn K (.ref f10) = true)
    (a11 : PySem.W.nsIn K mainGlobals "by_length" = some (some (.ref f11))) (l11 : K.lookup f11 = some ⟨oc11, od11, .func (PySem.W.fnOf "by_length" "by_length" (defArgs s_by_length) (defBody s_by_length) (defScope s_by_length) .none kV11 dc11 pm11 an11 (Value.ref cc) ct11), sl11⟩) (c11 : PySem.W.codeIn K (Value.ref cc) "by_length" = true) (k11 : PySem.W.keepIn K (.ref f11) = true)
    (a12 : PySem.W.nsIn K mainGlobals "inner_texts" = some (some (.ref f12))) (l12 : K.lookup f12 = some ⟨oc12, od12, .func (PySem.W.fnOf "inner_texts" "inner_texts" (defArgs s_inner_texts) (defBody s_inner_texts) (defScope s_inner_texts) .none kV12 dc12 pm12 an12 cd12 ct12), sl12⟩) (c12 : PySem.W.codeIn K cd12 "inner_texts" = true) (k12 : PySem.W.keepIn K (.ref f12) = true)
    (a13 : PySem.W.nsIn K mainGlobals "token_numbers" = some (some (.ref f13))) (l13 : K.lookup f13 = some ⟨oc13, od13, .func (PySem.W.fnOf "token_numbers" "token_numbers" (defArgs s_token_numbers) (defBody s_token_numbers) (defScope s_token_numbers) .none kV13 dc13 pm13 an13 cd13 ct13), sl13⟩) (c13 : PySem.W.codeIn K cd13 "token_numbers" = true) (k13 : PySem.W.keepIn K (.ref f13) = true)
    (a14 : PySem.W.nsIn K mainGlobals "spelled_on" = some (some (.ref f14))) (l14 : K.lookup f14 = some ⟨oc14, od14, .func (PySem.W.fnOf "spelled_on" "spelled_on" (defArgs s_spelled_on) (defBody s_spelled_on) (defScope s_spelled_on) .none kV14 dc14 pm14 an14 cd14 ct14), sl14⟩) (c14 : PySem.W.codeIn K cd14 "spelled_on" = true) (k14 : PySem.W.keepIn K (.ref f14) = true)
    (a15 : PySem.W.nsIn K mainGlobals "speller" = some (some (.ref f15))) (l15 : K.lookup f15 = some ⟨oc15, od15, .func (PySem.W.fnOf "speller" "speller" (defArgs s_speller) (defBody s_speller) (defScope s_speller) .none kV15 dc15 pm15 an15 (Value.ref cd) ct15), sl15⟩) (c15 : PySem.W.codeIn K (Value.ref cd) "speller" = true) (k15 : PySem.W.keepIn K (.ref f15) = true)
    (a16 : PySem.W.nsIn K mainGlobals "_places_and_arcs" = some (some (.ref f16))) (l16 : K.lookup f16 = some ⟨oc16, od16, .func (PySem.W.fnOf "_places_and_arcs" "_places_and_arcs" (defArgs s__places_and_arcs) (defBody s__places_and_arcs) (defScope s__places_and_arcs) .none kV16 dc16 pm16 an16 cd16 ct16), sl16⟩) (c16 : PySem.W.codeIn K cd16 "_places_and_arcs" = true) (k16 : PySem.W.keepIn K (.ref f16) = true)
    (a17 : PySem.W.nsIn K mainGlobals "_arcs_from" = some (some (.ref f17))) (l17 : K.lookup f17 = some ⟨oc17, od17, .func (PySem.W.fnOf "_arcs_from" "_arcs_from" (defArgs s__arcs_from) (defBody s__arcs_from) (defScope s__arcs_from) .none kV17 dc17 pm17 an17 cd17 ct17), sl17⟩) (c17 : PySem.W.codeIn K cd17 "_arcs_from" = true) (k17 : PySem.W.keepIn K (.ref f17) = true)
    (a18 : PySem.W.nsIn K mainGlobals "_is_final" = some (some (.ref f18))) (l18 : K.lookup f18 = some ⟨oc18, od18, .func (PySem.W.fnOf "_is_final" "_is_final" (defArgs s__is_final) (defBody s__is_final) (defScope s__is_final) .none kV18 dc18 pm18 an18 cd18 ct18), sl18⟩) (c18 : PySem.W.codeIn K cd18 "_is_final" = true) (k18 : PySem.W.keepIn K (.ref f18) = true)
    (a19 : PySem.W.nsIn K mainGlobals "place_behind" = some (some (.ref f19))) (l19 : K.lookup f19 = some ⟨oc19, od19, .func (PySem.W.fnOf "place_behind" "place_behind" (defArgs s_place_behind) (defBody s_place_behind) (defScope s_place_behind) .none kV19 dc19 pm19 an19 cd19 ct19), sl19⟩) (c19 : PySem.W.codeIn K cd19 "place_behind" = true) (k19 : PySem.W.keepIn K (.ref f19) = true)
    (a20 : PySem.W.nsIn K mainGlobals "border_behind" = some (some (.ref f20))) (l20 : K.lookup f20 = some ⟨oc20, od20, .func (PySem.W.fnOf "border_behind" "border_behind" (defArgs s_border_behind) (defBody s_border_behind) (defScope s_border_behind) .none kV20 dc20 pm20 an20 cd20 ct20), sl20⟩) (c20 : PySem.W.codeIn K cd20 "border_behind" = true) (k20 : PySem.W.keepIn K (.ref f20) = true)
    (a21 : PySem.W.nsIn K mainGlobals "priced" = some (some (.ref f21))) (l21 : K.lookup f21 = some ⟨oc21, od21, .func (PySem.W.fnOf "priced" "priced" (defArgs s_priced) (defBody s_priced) (defScope s_priced) .none kV21 dc21 pm21 an21 cd21 ct21), sl21⟩) (c21 : PySem.W.codeIn K cd21 "priced" = true) (k21 : PySem.W.keepIn K (.ref f21) = true)
    (a22 : PySem.W.nsIn K mainGlobals "text_price" = some (some (.ref f22))) (l22 : K.lookup f22 = some ⟨oc22, od22, .func (PySem.W.fnOf "text_price" "text_price" (defArgs s_text_price) (defBody s_text_price) (defScope s_text_price) .none kV22 dc22 pm22 an22 cd22 ct22), sl22⟩) (c22 : PySem.W.codeIn K cd22 "text_price" = true) (k22 : PySem.W.keepIn K (.ref f22) = true)
    (a23 : PySem.W.nsIn K mainGlobals "arcs_by_letter" = some (some (.ref f23))) (l23 : K.lookup f23 = some ⟨oc23, od23, .func (PySem.W.fnOf "arcs_by_letter" "arcs_by_letter" (defArgs s_arcs_by_letter) (defBody s_arcs_by_letter) (defScope s_arcs_by_letter) .none kV23 dc23 pm23 an23 cd23 ct23), sl23⟩) (c23 : PySem.W.codeIn K cd23 "arcs_by_letter" = true) (k23 : PySem.W.keepIn K (.ref f23) = true)
    (a24 : PySem.W.nsIn K mainGlobals "_prices_behind" = some (some (.ref f24))) (l24 : K.lookup f24 = some ⟨oc24, od24, .func (PySem.W.fnOf "_prices_behind" "_prices_behind" (defArgs s__prices_behind) (defBody s__prices_behind) (defScope s__prices_behind) .none kV24 dc24 pm24 an24 cd24 ct24), sl24⟩) (c24 : PySem.W.codeIn K cd24 "_prices_behind" = true) (k24 : PySem.W.keepIn K (.ref f24) = true)
    (a25 : PySem.W.nsIn K mainGlobals "_law_pick" = some (some (.ref f25))) (l25 : K.lookup f25 = some ⟨oc25, od25, .func (PySem.W.fnOf "_law_pick" "_law_pick" (defArgs s__law_pick) (defBody s__law_pick) (defScope s__law_pick) .none kV25 dc25 pm25 an25 cd25 ct25), sl25⟩) (c25 : PySem.W.codeIn K cd25 "_law_pick" = true) (k25 : PySem.W.keepIn K (.ref f25) = true)
    (a26 : PySem.W.nsIn K mainGlobals "_law_joined" = some (some (.ref f26))) (l26 : K.lookup f26 = some ⟨oc26, od26, .func (PySem.W.fnOf "_law_joined" "_law_joined" (defArgs s__law_joined) (defBody s__law_joined) (defScope s__law_joined) .none kV26 dc26 pm26 an26 cd26 ct26), sl26⟩) (c26 : PySem.W.codeIn K cd26 "_law_joined" = true) (k26 : PySem.W.keepIn K (.ref f26) = true)
    (a27 : PySem.W.nsIn K mainGlobals "_law_spoilt" = some (some (.ref f27))) (l27 : K.lookup f27 = some ⟨oc27, od27, .func (PySem.W.fnOf "_law_spoilt" "_law_spoilt" (defArgs s__law_spoilt) (defBody s__law_spoilt) (defScope s__law_spoilt) .none kV27 dc27 pm27 an27 cd27 ct27), sl27⟩) (c27 : PySem.W.codeIn K cd27 "_law_spoilt" = true) (k27 : PySem.W.keepIn K (.ref f27) = true)
    (a28 : PySem.W.nsIn K mainGlobals "_law_tokens" = some (some (.ref f28))) (l28 : K.lookup f28 = some ⟨oc28, od28, .func (PySem.W.fnOf "_law_tokens" "_law_tokens" (defArgs s__law_tokens) (defBody s__law_tokens) (defScope s__law_tokens) .none kV28 dc28 pm28 an28 cd28 ct28), sl28⟩) (c28 : PySem.W.codeIn K cd28 "_law_tokens" = true) (k28 : PySem.W.keepIn K (.ref f28) = true)
    (a29 : PySem.W.nsIn K mainGlobals "_law_book" = some (some (.ref f29))) (l29 : K.lookup f29 = some ⟨oc29, od29, .func (PySem.W.fnOf "_law_book" "_law_book" (defArgs s__law_book) (defBody s__law_book) (defScope s__law_book) .none kV29 dc29 pm29 an29 cd29 ct29), sl29⟩) (c29 : PySem.W.codeIn K cd29 "_law_book" = true) (k29 : PySem.W.keepIn K (.ref f29) = true)
    (a30 : PySem.W.nsIn K mainGlobals "_law_sum" = some (some (.ref f30))) (l30 : K.lookup f30 = some ⟨oc30, od30, .func (PySem.W.fnOf "_law_sum" "_law_sum" (defArgs s__law_sum) (defBody s__law_sum) (defScope s__law_sum) .none kV30 dc30 pm30 an30 cd30 ct30), sl30⟩) (c30 : PySem.W.codeIn K cd30 "_law_sum" = true) (k30 : PySem.W.keepIn K (.ref f30) = true)
    (a31 : PySem.W.nsIn K mainGlobals "_law_own" = some (some (.ref f31))) (l31 : K.lookup f31 = some ⟨oc31, od31, .func (PySem.W.fnOf "_law_own" "_law_own" (defArgs s__law_own) (defBody s__law_own) (defScope s__law_own) .none kV31 dc31 pm31 an31 cd31 ct31), sl31⟩) (c31 : PySem.W.codeIn K cd31 "_law_own" = true) (k31 : PySem.W.keepIn K (.ref f31) = true)
    (a32 : PySem.W.nsIn K mainGlobals "_law_walk" = some (some (.ref f32))) (l32 : K.lookup f32 = some ⟨oc32, od32, .func (PySem.W.fnOf "_law_walk" "_law_walk" (defArgs s__law_walk) (defBody s__law_walk) (defScope s__law_walk) .none kV32 dc32 pm32 an32 cd32 ct32), sl32⟩) (c32 : PySem.W.codeIn K cd32 "_law_walk" = true) (k32 : PySem.W.keepIn K (.ref f32) = true)
    (a33 : PySem.W.nsIn K mainGlobals "_law_number" = some (some (.ref f33))) (l33 : K.lookup f33 = some ⟨oc33, od33, .func (PySem.W.fnOf "_law_number" "_law_number" (defArgs s__law_number) (defBody s__law_number) (defScope s__law_number) .none kV33 dc33 pm33 an33 cd33 ct33), sl33⟩) (c33 : PySem.W.codeIn K cd33 "_law_number" = true) (k33 : PySem.W.keepIn K (.ref f33) = true)
    (a34 : PySem.W.nsIn K mainGlobals "_law_shape" = some (some (.ref f34))) (l34 : K.lookup f34 = some ⟨oc34, od34, .func (PySem.W.fnOf "_law_shape" "_law_shape" (defArgs s__law_shape) (defBody s__law_shape) (defScope s__law_shape) .none kV34 dc34 pm34 an34 cd34 ct34), sl34⟩) (c34 : PySem.W.codeIn K cd34 "_law_shape" = true) (k34 : PySem.W.keepIn K (.ref f34) = true)
    (a35 : PySem.W.nsIn K mainGlobals "_law_same" = some (some (.ref f35))) (l35 : K.lookup f35 = some ⟨oc35, od35, .func (PySem.W.fnOf "_law_same" "_law_same" (defArgs s__law_same) (defBody s__law_same) (defScope s__law_same) .none kV35 dc35 pm35 an35 cd35 ct35), sl35⟩) (c35 : PySem.W.codeIn K cd35 "_law_same" = true) (k35 : PySem.W.keepIn K (.ref f35) = true)
    (a36 : PySem.W.nsIn K mainGlobals "_law_agree" = some (some (.ref f36))) (l36 : K.lookup f36 = some ⟨oc36, od36, .func (PySem.W.fnOf "_law_agree" "_law_agree" (defArgs s__law_agree) (defBody s__law_agree) (defScope s__law_agree) .none kV36 dc36 pm36 an36 cd36 ct36), sl36⟩) (c36 : PySem.W.codeIn K cd36 "_law_agree" = true) (k36 : PySem.W.keepIn K (.ref f36) = true)
    (a37 : PySem.W.nsIn K mainGlobals "_law_behind_row" = some (some (.ref f37))) (l37 : K.lookup f37 = some ⟨oc37, od37, .func (PySem.W.fnOf "_law_behind_row" "_law_behind_row" (defArgs s__law_behind_row) (defBody s__law_behind_row) (defScope s__law_behind_row) .none kV37 dc37 pm37 an37 cd37 ct37), sl37⟩) (c37 : PySem.W.codeIn K cd37 "_law_behind_row" = true) (k37 : PySem.W.keepIn K (.ref f37) = true)
    (a38 : PySem.W.nsIn K mainGlobals "law" = some (some (.ref f38))) (l38 : K.lookup f38 = some ⟨oc38, od38, .func (PySem.W.fnOf "law" "law" (defArgs s_law) (defBody s_law) (defScope s_law) .none kV38 dc38 pm38 an38 cd38 ct38), sl38⟩) (c38 : PySem.W.codeIn K cd38 "law" = true) (k38 : PySem.W.keepIn K (.ref f38) = true)
    (q_PERCENT : ∃ t, PySem.W.nsIn K mainGlobals "_PERCENT" = some (some (.int (37) t)))
    (qROW_LIMIT : ∃ t, PySem.W.nsIn K mainGlobals "ROW_LIMIT" = some (some (.int (60) t)))
    (qTEXT_LIMIT : ∃ t, PySem.W.nsIn K mainGlobals "TEXT_LIMIT" = some (some (.int (1200) t)))
    (zall : PySem.W.nsIn K mainGlobals "all" = some none)
    (zbool : PySem.W.nsIn K mainGlobals "bool" = some none)
    (zenumerate : PySem.W.nsIn K mainGlobals "enumerate" = some none)
    (zint : PySem.W.nsIn K mainGlobals "int" = some none)
    (zisinstance : PySem.W.nsIn K mainGlobals "isinstance" = some none)
    (zlen : PySem.W.nsIn K mainGlobals "len" = some none)
    (zlist : PySem.W.nsIn K mainGlobals "list" = some none)
    (zmax : PySem.W.nsIn K mainGlobals "max" = some none)
    (zmin : PySem.W.nsIn K mainGlobals "min" = some none)
    (zord : PySem.W.nsIn K mainGlobals "ord" = some none)
    (zrange : PySem.W.nsIn K mainGlobals "range" = some none)
    (zsorted : PySem.W.nsIn K mainGlobals "sorted" = some none)
    (zstr : PySem.W.nsIn K mainGlobals "str" = some none)
    (zsum : PySem.W.nsIn K mainGlobals "sum" = some none)
    (ztuple : PySem.W.nsIn K mainGlobals "tuple" = some none)
    (hT : h.get? cP = some { cls := .none, data := .fields #[] }) (nT : K.lookup cP = none) (hCd : PySem.W.codeHdIn K cc cP = true)
    (hT2 : h.get? cS = some { cls := .none, data := .fields #[] }) (nT2 : K.lookup cS = none) (hCd2 : PySem.W.codeHdIn K cd cS = true) (hNe : cP ≠ cS)
    : LamX.LawAtS l w K CX0 9 63 "script" mg fa h := by
  have e := hfa.symm.trans (PySem.W.mg_of X G a38)
  cases e
  have nus : PySem.NUsX.NUsTxt K mg C fI :=
    { gC := PySem.W.mg_of X G aC, cls := ⟨nm, qn, N, bs, _, sn, sub, ab, col, dd, m0, m1, m2, m3, m5, xL, by rfl⟩, sa := sa, ga := ga, gg := gg, noN := nb, iC := iC, tC := tI, kC := kC, exC := eC, tyC := tC, hdC := hC, te := exm_self eC clC tC sC,
      fn := ⟨_, _, _, _, _, _, _, _, _, _, _, _, _, _, lI, cI⟩ }
  have F0 := fun_mk (st := s_is_int) l0 c0 k0
  have F1 := fun_mk (st := s_is_number) l1 c1 k1
  have F2 := fun_mk (st := s_is_text) l2 c2 k2
  have F3 := fun_mk (st := s__is_sign) l3 c3 k3
  have F4 := fun_mk (st := s_is_below) l4 c4 k4
  have F5 := fun_mk (st := s_are_below) l5 c5 k5
  have F6 := fun_mk (st := s_ask_row) l6 c6 k6
  have F7 := fun_mk (st := s_ask_text) l7 c7 k7
  have F8 := fun_mk (st := s_ask_below) l8 c8 k8
  have F9 := fun_mk (st := s_state_after) l9 c9 k9
  have F10 := fun_mk (st := s_joined) l10 c10 k10
  have F11 := fun_mk (st := s_by_length) l11 c11 k11
  have F12 := fun_mk (st := s_inner_texts) l12 c12 k12
  have F13 := fun_mk (st := s_token_numbers) l13 c13 k13
  have F14 := fun_mk (st := s_spelled_on) l14 c14 k14
  have F15 := fun_mk (st := s_speller) l15 c15 k15
  have F16 := fun_mk (st := s__places_and_arcs) l16 c16 k16
  have F17 := fun_mk (st := s__arcs_from) l17 c17 k17
  have F18 := fun_mk (st := s__is_final) l18 c18 k18
  have F19 := fun_mk (st := s_place_behind) l19 c19 k19
  have F20 := fun_mk (st := s_border_behind) l20 c20 k20
  have F21 := fun_mk (st := s_priced) l21 c21 k21
  have F22 := fun_mk (st := s_text_price) l22 c22 k22
  have F23 := fun_mk (st := s_arcs_by_letter) l23 c23 k23
  have F24 := fun_mk (st := s__prices_behind) l24 c24 k24
  have F25 := fun_mk (st := s__law_pick) l25 c25 k25
  have F26 := fun_mk (st := s__law_joined) l26 c26 k26
  have F27 := fun_mk (st := s__law_spoilt) l27 c27 k27
  have F28 := fun_mk (st := s__law_tokens) l28 c28 k28
  have F29 := fun_mk (st := s__law_book) l29 c29 k29
  have F30 := fun_mk (st := s__law_sum) l30 c30 k30
  have F31 := fun_mk (st := s__law_own) l31 c31 k31
  have F32 := fun_mk (st := s__law_walk) l32 c32 k32
  have F33 := fun_mk (st := s__law_number) l33 c33 k33
  have F34 := fun_mk (st := s__law_shape) l34 c34 k34
  have F35 := fun_mk (st := s__law_same) l35 c35 k35
  have F36 := fun_mk (st := s__law_agree) l36 c36 k36
  have F37 := fun_mk (st := s__law_behind_row) l37 c37 k37
  have F38 := fun_mk (st := s_law) l38 c38 k38
  let T : Tx K mg := {
    f_is_int := _, d_is_int := _, F_is_int := F0, g_is_int := PySem.W.mg_of X G a0, b_is_int := F0.binds (ps := ["thing"]) fun _ _ _ _ _ _ us hl => match us, hl with | [_], _ => rfl
    f_is_number := _, d_is_number := _, F_is_number := F1, g_is_number := PySem.W.mg_of X G a1, b_is_number := F1.binds (ps := ["thing"]) fun _ _ _ _ _ _ us hl => match us, hl with | [_], _ => rfl
    f_is_text := _, d_is_text := _, F_is_text := F2, g_is_text := PySem.W.mg_of X G a2, b_is_text := F2.binds (ps := ["thing"]) fun _ _ _ _ _ _ us hl => match us, hl with | [_], _ => rfl
    f__is_sign := _, d__is_sign := _, F__is_sign := F3, g__is_sign := PySem.W.mg_of X G a3, b__is_sign := F3.binds (ps := ["sign"]) fun _ _ _ _ _ _ us hl => match us, hl with | [_], _ => rfl
    f_is_below := _, d_is_below := _, F_is_below := F4, g_is_below := PySem.W.mg_of X G a4, b_is_below := F4.binds (ps := ["thing", "bound"]) fun _ _ _ _ _ _ us hl => match us, hl with | [_, _], _ => rfl
    f_are_below := _, d_are_below := _, F_are_below := F5, g_are_below := PySem.W.mg_of X G a5, b_are_below := F5.binds (ps := ["thing", "bound"]) fun _ _ _ _ _ _ us hl => match us, hl with | [_, _], _ => rfl
    f_ask_row := _, d_ask_row := _, F_ask_row := F6, g_ask_row := PySem.W.mg_of X G a6, b_ask_row := F6.binds (ps := ["tokens", "row"]) fun _ _ _ _ _ _ us hl => match us, hl with | [_, _], _ => rfl
    f_ask_text := _, d_ask_text := _, F_ask_text := F7, g_ask_text := PySem.W.mg_of X G a7, b_ask_text := F7.binds (ps := ["text"]) fun _ _ _ _ _ _ us hl => match us, hl with | [_], _ => rfl
    f_ask_below := _, d_ask_below := _, F_ask_below := F8, g_ask_below := PySem.W.mg_of X G a8, b_ask_below := F8.binds (ps := ["number", "bound", "word"]) fun _ _ _ _ _ _ us hl => match us, hl with | [_, _, _], _ => rfl
    f_state_after := _, d_state_after := _, F_state_after := F9, g_state_after := PySem.W.mg_of X G a9, b_state_after := F9.binds (ps := ["book", "row"]) fun _ _ _ _ _ _ us hl => match us, hl with | [_, _], _ => rfl
    f_joined := _, d_joined := _, F_joined := F10, g_joined := PySem.W.mg_of X G a10, b_joined := F10.binds (ps := ["tokens", "row"]) fun _ _ _ _ _ _ us hl => match us, hl with | [_, _], _ => rfl
    f_by_length := _, d_by_length := _, F_by_length := F11, g_by_length := PySem.W.mg_of X G a11, b_by_length := F11.binds (ps := ["things"]) fun _ _ _ _ _ _ us hl => match us, hl with | [_], _ => rfl
    f_inner_texts := _, d_inner_texts := _, F_inner_texts := F12, g_inner_texts := PySem.W.mg_of X G a12, b_inner_texts := F12.binds (ps := ["tokens"]) fun _ _ _ _ _ _ us hl => match us, hl with | [_], _ => rfl
    f_token_numbers := _, d_token_numbers := _, F_token_numbers := F13, g_token_numbers := PySem.W.mg_of X G a13, b_token_numbers := F13.binds (ps := ["tokens"]) fun _ _ _ _ _ _ us hl => match us, hl with | [_], _ => rfl
    f_spelled_on := _, d_spelled_on := _, F_spelled_on := F14, g_spelled_on := PySem.W.mg_of X G a14, b_spelled_on := F14.binds (ps := ["tokens"]) fun _ _ _ _ _ _ us hl => match us, hl with | [_], _ => rfl
    f_speller := _, d_speller := _, F_speller := F15, g_speller := PySem.W.mg_of X G a15, b_speller := F15.binds (ps := ["tokens", "book", "begun", "mode"]) fun _ _ _ _ _ _ us hl => match us, hl with | [_, _, _, _], _ => rfl
    f__places_and_arcs := _, d__places_and_arcs := _, F__places_and_arcs := F16, g__places_and_arcs := PySem.W.mg_of X G a16, b__places_and_arcs := F16.binds (ps := ["tokens", "book", "begun", "mode"]) fun _ _ _ _ _ _ us hl => match us, hl with | [_, _, _, _], _ => rfl
    f__arcs_from := _, d__arcs_from := _, F__arcs_from := F17, g__arcs_from := PySem.W.mg_of X G a17, b__arcs_from := F17.binds (ps := ["place", "ways", "table", "begun", "mode"]) fun _ _ _ _ _ _ us hl => match us, hl with | [_, _, _, _, _], _ => rfl
    f__is_final := _, d__is_final := _, F__is_final := F18, g__is_final := PySem.W.mg_of X G a18, b__is_final := F18.binds (ps := ["place", "book", "begun"]) fun _ _ _ _ _ _ us hl => match us, hl with | [_, _, _], _ => rfl
    f_place_behind := _, d_place_behind := _, F_place_behind := F19, g_place_behind := PySem.W.mg_of X G a19, b_place_behind := F19.binds (ps := ["tokens", "book", "begun", "mode", "row"]) fun _ _ _ _ _ _ us hl => match us, hl with | [_, _, _, _, _], _ => rfl
    f_border_behind := _, d_border_behind := _, F_border_behind := F20, g_border_behind := PySem.W.mg_of X G a20, b_border_behind := F20.binds (ps := ["tokens", "book", "begun", "mode", "row"]) fun _ _ _ _ _ _ us hl => match us, hl with | [_, _, _, _, _], _ => rfl
    f_priced := _, d_priced := _, F_priced := F21, g_priced := PySem.W.mg_of X G a21, b_priced := F21.binds (ps := ["tokens", "book", "begun", "mode"]) fun _ _ _ _ _ _ us hl => match us, hl with | [_, _, _, _], _ => rfl
    f_text_price := _, d_text_price := _, F_text_price := F22, g_text_price := PySem.W.mg_of X G a22, b_text_price := F22.binds (ps := ["machine", "here", "there", "text"]) fun _ _ _ _ _ _ us hl => match us, hl with | [_, _, _, _], _ => rfl
    f_arcs_by_letter := _, d_arcs_by_letter := _, F_arcs_by_letter := F23, g_arcs_by_letter := PySem.W.mg_of X G a23, b_arcs_by_letter := F23.binds (ps := ["arcs"]) fun _ _ _ _ _ _ us hl => match us, hl with | [_], _ => rfl
    f__prices_behind := _, d__prices_behind := _, F__prices_behind := F24, g__prices_behind := PySem.W.mg_of X G a24, b__prices_behind := F24.binds (ps := ["prices", "steps"]) fun _ _ _ _ _ _ us hl => match us, hl with | [_, _], _ => rfl
    f__law_pick := _, d__law_pick := _, F__law_pick := F25, g__law_pick := PySem.W.mg_of X G a25, b__law_pick := F25.binds (ps := ["tape", "many"]) fun _ _ _ _ _ _ us hl => match us, hl with | [_, _], _ => rfl
    f__law_joined := _, d__law_joined := _, F__law_joined := F26, g__law_joined := PySem.W.mg_of X G a26, b__law_joined := F26.binds (ps := ["tape", "tokens", "most"]) fun _ _ _ _ _ _ us hl => match us, hl with | [_, _, _], _ => rfl
    f__law_spoilt := _, d__law_spoilt := _, F__law_spoilt := F27, g__law_spoilt := PySem.W.mg_of X G a27, b__law_spoilt := F27.binds (ps := ["tape", "text", "letters", "most"]) fun _ _ _ _ _ _ us hl => match us, hl with | [_, _, _, _], _ => rfl
    f__law_tokens := _, d__law_tokens := _, F__law_tokens := F28, g__law_tokens := PySem.W.mg_of X G a28, b__law_tokens := F28.binds (ps := ["tape"]) fun _ _ _ _ _ _ us hl => match us, hl with | [_], _ => rfl
    f__law_book := _, d__law_book := _, F__law_book := F29, g__law_book := PySem.W.mg_of X G a29, b__law_book := F29.binds (ps := ["tape", "many"]) fun _ _ _ _ _ _ us hl => match us, hl with | [_, _], _ => rfl
    f__law_sum := _, d__law_sum := _, F__law_sum := F30, g__law_sum := PySem.W.mg_of X G a30, b__law_sum := F30.binds (ps := ["one", "other"]) fun _ _ _ _ _ _ us hl => match us, hl with | [_, _], _ => rfl
    f__law_own := _, d__law_own := _, F__law_own := F31, g__law_own := PySem.W.mg_of X G a31, b__law_own := F31.binds (ps := ["tokens", "table", "begun", "healed", "ahead", "state", "text"]) fun _ _ _ _ _ _ us hl => match us, hl with | [_, _, _, _, _, _, _], _ => rfl
    f__law_walk := _, d__law_walk := _, F__law_walk := F32, g__law_walk := PySem.W.mg_of X G a32, b__law_walk := F32.binds (ps := ["arcs", "start", "text"]) fun _ _ _ _ _ _ us hl => match us, hl with | [_, _, _], _ => rfl
    f__law_number := _, d__law_number := _, F__law_number := F33, g__law_number := PySem.W.mg_of X G a33, b__law_number := F33.binds (ps := ["thing", "least", "below"]) fun _ _ _ _ _ _ us hl => match us, hl with | [_, _, _], _ => rfl
    f__law_shape := _, d__law_shape := _, F__law_shape := F34, g__law_shape := PySem.W.mg_of X G a34, b__law_shape := F34.binds (ps := ["told", "many", "states"]) fun _ _ _ _ _ _ us hl => match us, hl with | [_, _, _], _ => rfl
    f__law_same := _, d__law_same := _, F__law_same := F35, g__law_same := PySem.W.mg_of X G a35, b__law_same := F35.binds (ps := ["one", "other"]) fun _ _ _ _ _ _ us hl => match us, hl with | [_, _], _ => rfl
    f__law_agree := _, d__law_agree := _, F__law_agree := F36, g__law_agree := PySem.W.mg_of X G a36, b__law_agree := F36.binds (ps := ["tape", "machine", "places", "arcs", "start", "text", "own"]) fun _ _ _ _ _ _ us hl => match us, hl with | [_, _, _, _, _, _, _], _ => rfl
    f__law_behind_row := _, d__law_behind_row := _, F__law_behind_row := F37, g__law_behind_row := PySem.W.mg_of X G a37, b__law_behind_row := F37.binds (ps := ["tape", "tokens", "book", "begun", "mode", "machine", "told", "letters"]) fun _ _ _ _ _ _ us hl => match us, hl with | [_, _, _, _, _, _, _, _], _ => rfl
    f_law := _, d_law := _, F_law := F38, g_law := PySem.W.mg_of X G a38, b_law := F38.binds (ps := ["script"]) fun _ _ _ _ _ _ us hl => match us, hl with | [_], _ => rfl
    k_text_price := ⟨fun s us ws _ hu hw => match us, hu, ws, hw with | [], _, [_, _, _, _], _ => .of_eq rfl, fun _ rz => kwr_text_price rz⟩
    c__PERCENT := let ⟨t, e⟩ := q_PERCENT; ⟨t, PySem.W.mg_of X G e⟩
    c_ROW_LIMIT := let ⟨t, e⟩ := qROW_LIMIT; ⟨t, PySem.W.mg_of X G e⟩
    c_TEXT_LIMIT := let ⟨t, e⟩ := qTEXT_LIMIT; ⟨t, PySem.W.mg_of X G e⟩
    n_all := PySem.W.mg_none_of X G zall
    n_bool := PySem.W.mg_none_of X G zbool
    n_enumerate := PySem.W.mg_none_of X G zenumerate
    n_int := PySem.W.mg_none_of X G zint
    n_isinstance := PySem.W.mg_none_of X G zisinstance
    n_len := PySem.W.mg_none_of X G zlen
    n_list := PySem.W.mg_none_of X G zlist
    n_max := PySem.W.mg_none_of X G zmax
    n_min := PySem.W.mg_none_of X G zmin
    n_ord := PySem.W.mg_none_of X G zord
    n_range := PySem.W.mg_none_of X G zrange
    n_sorted := PySem.W.mg_none_of X G zsorted
    n_str := PySem.W.mg_none_of X G zstr
    n_sum := PySem.W.mg_none_of X G zsum
    n_tuple := PySem.W.mg_none_of X G ztuple
    C_NotUsable := C, I_NotUsable := fI, nus := nus}
  have two : ∀ {A : Addr × Addr → Prop}, A (cc, cP) → A (cd, cS) → ∀ p ∈ [(cc, cP), (cd, cS)], A p := fun {A} h1 h2 p hp => by
    rcases List.mem_cons.mp hp with e | hp
    · rw [e]; exact h1
    · rw [List.mem_singleton.mp hp]; exact h2
  refine ⟨T.d_law, [(cc, cP), (cd, cS)], sp_law K (TT cP cS), two hT hT2, two nT nT2, two (PySem.W.codeHd_of_K X hCd) (PySem.W.codeHd_of_K X hCd2), fun s v => .of_eq rfl, fun H a ns hl _ hB hS => ⟨a, ns, rfl, hS, hl, fun p hp => ?_, fun _ => rfl⟩, fun base _ _ hTB => ok_law T ⟨rfl, hTB (cc, cP) List.mem_cons_self, rfl, hTB (cd, cS) (List.mem_cons_of_mem _ List.mem_cons_self), hNe⟩⟩
  rcases List.mem_cons.mp hp with e | hp
  · rw [e]
    exact LamX.TabS.nil (hB (cc, cP) List.mem_cons_self)
  · rw [List.mem_singleton.mp hp]
    exact LamX.TabS.nil (hB (cd, cS) (List.mem_cons_of_mem _ List.mem_cons_self))
end K58
set_option Elab.async false
set_option linter.all false
set_option maxRecDepth 100000
open PySem PySem.W PyProof.Rows
set_option maxHeartbeats 0 in
theorem PySem.Challenge.cw_stillends_k58_whole_rows_are_ways_holds : PySem.Challenge.rw_stillends_k58_whole_rows_are_ways.Holds := by
  w_on; o_law; k_head; (case hw => w_witness2)
  k_fill
  refine LamX.walk_ofTs (l := PySem.Challenge.rw_stillends_k58_whole_rows_are_ways) (n := 63) (k := 9) (x := "script") (CX := fun _ => L2.CX0) rfl (by decide) rfl ⟨rfl, by decide, by decide⟩ (fun w h Y => PySem.W.km_in_of Y) ?F (fun _ _ _ _ _ h => h)
  case F =>
    intro w mg fa h Y KX G hmg
    have hT8 := PySem.W.km_tabs_of Y
    refine' K58.all_mk KX G hmg ?aC ?xL ?sa ?ga ?gg ?nb ?iC ?tI ?lI ?cI ?kC ?eC ?tC ?hC ?clC ?sC ?a0 ?l0 ?c0 ?k0 ?a1 ?l1 ?c1 ?k1 ?a2 ?l2 ?c2 ?k2 ?a3 ?l3 ?c3 ?k3 ?a4 ?l4 ?c4 ?k4 ?a5 ?l5 ?c5 ?k5 ?a6 ?l6 ?c6 ?k6 ?a7 ?l7 ?c7 ?k7 ?a8 ?l8 ?c8 ?k8 ?a9 ?l9 ?c9 ?k9 ?a10 ?l10 ?c10 ?k10 ?a11 ?l11 ?c11 ?k11 ?a12 ?l12 ?c12 ?k12 ?a13 ?l13 ?c13 ?k13 ?a14 ?l14 ?c14 ?k14 ?a15 ?l15 ?c15 ?k15 ?a16 ?l16 ?c16 ?k16 ?a17 ?l17 ?c17 ?k17 ?a18 ?l18 ?c18 ?k18 ?a19 ?l19 ?c19 ?k19 ?a20 ?l20 ?c20 ?k20 ?a21 ?l21 ?c21 ?k21 ?a22 ?l22 ?c22 ?k22 ?a23 ?l23 ?c23 ?k23 ?a24 ?l24 ?c24 ?k24 ?a25 ?l25 ?c25 ?k25 ?a26 ?l26 ?c26 ?k26 ?a27 ?l27 ?c27 ?k27 ?a28 ?l28 ?c28 ?k28 ?a29 ?l29 ?c29 ?k29 ?a30 ?l30 ?c30 ?k30 ?a31 ?l31 ?c31 ?k31 ?a32 ?l32 ?c32 ?k32 ?a33 ?l33 ?c33 ?k33 ?a34 ?l34 ?c34 ?k34 ?a35 ?l35 ?c35 ?k35 ?a36 ?l36 ?c36 ?k36 ?a37 ?l37 ?c37 ?k37 ?a38 ?l38 ?c38 ?k38 ?q_PERCENT ?qROW_LIMIT ?qTEXT_LIMIT ?zall ?zbool ?zenumerate ?zint ?zisinstance ?zlen ?zlist ?zmax ?zmin ?zord ?zrange ?zsorted ?zstr ?zsum ?ztuple ?hT ?nT ?hCd ?hT2 ?nT2 ?hCd2 ?hNe
    (case aC => k_is)
    (case xL => k_is)
    (case sa => k_is)
    (case ga => k_is)
    (case gg => k_is)
    (case nb => k_is)
    (case iC => k_is)
    (case tI => k_is)
    (case lI => k_is)
    (case cI => k_is)
    (case kC => k_is)
    (case eC => k_is)
    (case tC => k_is)
    (case hC => k_is)
    (case clC => k_is)
    (case sC => first | rfl | k_is)
    (case a0 => k_is)
    (case l0 => k_is)
    (case c0 => k_is)
    (case k0 => k_is)
    (case a1 => k_is)
    (case l1 => k_is)
    (case c1 => k_is)
    (case k1 => k_is)
    (case a2 => k_is)
    (case l2 => k_is)
    (case c2 => k_is)
    (case k2 => k_is)
    (case a3 => k_is)
    (case l3 => k_is)
    (case c3 => k_is)
    (case k3 => k_is)
    (case a4 => k_is)
    (case l4 => k_is)
    (case c4 => k_is)
    (case k4 => k_is)
    (case a5 => k_is)
    (case l5 => k_is)
    (case c5 => k_is)
    (case k5 => k_is)
    (case a6 => k_is)
    (case l6 => k_is)
    (case c6 => k_is)
    (case k6 => k_is)
    (case a7 => k_is)
    (case l7 => k_is)
    (case c7 => k_is)
    (case k7 => k_is)
    (case a8 => k_is)
    (case l8 => k_is)
    (case c8 => k_is)
    (case k8 => k_is)
    (case a9 => k_is)
    (case l9 => k_is)
    (case c9 => k_is)
    (case k9 => k_is)
    (case a10 => k_is)
    (case l10 => k_is)
    (case c10 => k_is)
    (case k10 => k_is)
    (case a11 => k_is)
    (case l11 => k_is)
    (case c11 => k_is)
    (case k11 => k_is)
    (case a12 => k_is)
    (case l12 => k_is)
    (case c12 => k_is)
    (case k12 => k_is)
    (case a13 => k_is)
    (case l13 => k_is)
    (case c13 => k_is)
    (case k13 => k_is)
    (case a14 => k_is)
    (case l14 => k_is)
    (case c14 => k_is)
    (case k14 => k_is)
    (case a15 => k_is)
    (case l15 => k_is)
    (case c15 => k_is)
    (case k15 => k_is)
    (case a16 => k_is)
    (case l16 => k_is)
    (case c16 => k_is)
    (case k16 => k_is)
    (case a17 => k_is)
    (case l17 => k_is)
    (case c17 => k_is)
    (case k17 => k_is)
    (case a18 => k_is)
    (case l18 => k_is)
    (case c18 => k_is)
    (case k18 => k_is)
    (case a19 => k_is)
    (case l19 => k_is)
    (case c19 => k_is)
    (case k19 => k_is)
    (case a20 => k_is)
    (case l20 => k_is)
    (case c20 => k_is)
    (case k20 => k_is)
    (case a21 => k_is)
    (case l21 => k_is)
    (case c21 => k_is)
    (case k21 => k_is)
    (case a22 => k_is)
    (case l22 => k_is)
    (case c22 => k_is)
    (case k22 => k_is)
    (case a23 => k_is)
    (case l23 => k_is)
    (case c23 => k_is)
    (case k23 => k_is)
    (case a24 => k_is)
    (case l24 => k_is)
    (case c24 => k_is)
    (case k24 => k_is)
    (case a25 => k_is)
    (case l25 => k_is)
    (case c25 => k_is)
    (case k25 => k_is)
    (case a26 => k_is)
    (case l26 => k_is)
    (case c26 => k_is)
    (case k26 => k_is)
    (case a27 => k_is)
    (case l27 => k_is)
    (case c27 => k_is)
    (case k27 => k_is)
    (case a28 => k_is)
    (case l28 => k_is)
    (case c28 => k_is)
    (case k28 => k_is)
    (case a29 => k_is)
    (case l29 => k_is)
    (case c29 => k_is)
    (case k29 => k_is)
    (case a30 => k_is)
    (case l30 => k_is)
    (case c30 => k_is)
    (case k30 => k_is)
    (case a31 => k_is)
    (case l31 => k_is)
    (case c31 => k_is)
    (case k31 => k_is)
    (case a32 => k_is)
    (case l32 => k_is)
    (case c32 => k_is)
    (case k32 => k_is)
    (case a33 => k_is)
    (case l33 => k_is)
    (case c33 => k_is)
    (case k33 => k_is)
    (case a34 => k_is)
    (case l34 => k_is)
    (case c34 => k_is)
    (case k34 => k_is)
    (case a35 => k_is)
    (case l35 => k_is)
    (case c35 => k_is)
    (case k35 => k_is)
    (case a36 => k_is)
    (case l36 => k_is)
    (case c36 => k_is)
    (case k36 => k_is)
    (case a37 => k_is)
    (case l37 => k_is)
    (case c37 => k_is)
    (case k37 => k_is)
    (case a38 => k_is)
    (case l38 => k_is)
    (case c38 => k_is)
    (case k38 => k_is)
    (case q_PERCENT => exact ⟨_, by k_is⟩)
    (case qROW_LIMIT => exact ⟨_, by k_is⟩)
    (case qTEXT_LIMIT => exact ⟨_, by k_is⟩)
    (case zall => k_is)
    (case zbool => k_is)
    (case zenumerate => k_is)
    (case zint => k_is)
    (case zisinstance => k_is)
    (case zlen => k_is)
    (case zlist => k_is)
    (case zmax => k_is)
    (case zmin => k_is)
    (case zord => k_is)
    (case zrange => k_is)
    (case zsorted => k_is)
    (case zstr => k_is)
    (case zsum => k_is)
    (case ztuple => k_is)
    (case hT => exact hT8 _ List.mem_cons_self)
    (case nT => rfl)
    (case hCd => kernel_rfl)
    (case hT2 => exact hT8 _ (List.mem_cons_of_mem _ List.mem_cons_self))
    (case nT2 => rfl)
    (case hCd2 => kernel_rfl)
    (case hNe => decide)
