import PyProof.Rows.All
import Wide.All
import OpenK.AllK
import Wide.FinOn
import HandS.ForMost
import HandS.ForExc
import HandS.CallSlots
import HandS.ExcCtx
import HandS.IsInst
import HandS.Defaults
import HandS.TupAny
import HandS.TupMul
import HandS.Wide
import HandS.Conv
import HandS.Flow
import HandS.Codes
import HandS.Zip
import HandS.Iter
import KE.GoesEnum
import KE.GoesMore
import HandS.DictComp
import PyProof.StrBlock2
import HandS.SetBool
import HandS.SetTxt0
import HandS.SortInts
import PyProof.Rows.SortStr
import HandS.Lambda
import HandS.SortKw
import KE.SortKeyHeap
import HandS.Words
import PySem.Challenge.RW_stillends_k01_inner_texts_and_rows
import HandS.EndTab
set_option Elab.async false
set_option linter.all false
set_option maxRecDepth 100000
set_option maxHeartbeats 2000000
namespace PySem
namespace NUsX
open PySem.W PySem.Calls PyProof.Rows PySem.HandSPX
def iA (p1 p2 : Pos) : Arguments := { posonlyargs := [], args := [{ arg := "self", annotation := none, pos := p1 }, { arg := "word", annotation := none, pos := p2 }], vararg := none, kwonlyargs := [], kw_defaults := [], kwarg := none, defaults := [] }
def iB (q1 q2 q3 q4 : Pos) : List Stmt := [.Assign [.Attribute (.Name "self" q1) "word" q2] (.Name "word" q3) q4]
def iS : Scope := { kind := .function, names := [(PySem.Str.ofString "self", .local), (PySem.Str.ofString "word", .local)], isGenerator := false, isCoroutine := false, more := [] }
structure NUsTxt (K : Frag) (mg : Str → Option Value) (C fI : Addr) : Prop where
  gC : mg "NotUsable" = some (.ref C)
  cls : ∃ nm q N bs bm sn sub ab col dd k0 k1 k2 k3 k5, K.lookup C = some (excClassObj nm q C N bs bm true sn sub ab col dd k0 k1 k2 k3 k5 "ValueError.__new__") ∧ refsVE bm = true
  sa : findIn K (.ref C) "__setattr__" = some (some (.builtin "object.__setattr__"))
  ga : findIn K (.ref C) "__getattribute__" = some (some (.builtin "BaseException.__getattribute__"))
  gg : findIn K (.ref C) "__getattr__" = some none
  noN : findIn K (.ref C) "word" = some none
  iC : findIn K (.ref C) "__init__" = some (some (.ref fI))
  tC : typeIn K (.ref fI) = some (.type "function")
  kC : keepIn K (.ref C) = true
  exC : subIn K (.ref C) (.type "BaseException") = some true
  tyC : typeIn K (.ref C) = some (.type "type")
  hdC : hasDictIn K C = true
  te : exmOne K (.ref C) (.ref C) = some true
  fn : ∃ (oc : Value) (od : Option Addr) (doc pm : Value) (an : Option Addr) (cdv ct : Value) (osl : Array (Option Value)) (p1 p2 q1 q2 q3 q4 : Pos),
    K.lookup fI = some ⟨oc, od, .func (fnOf "__init__" "NotUsable.__init__" (iA p1 p2) (iB q1 q2 q3 q4) iS .none .none doc pm an cdv ct), osl⟩ ∧ codeIn K cdv "NotUsable.__init__" = true
theorem one_size (v : Value) : [v].length ≤ sizeLine := by
  rw [sizeLine_eq]
  exact (by decide : 1 ≤ 16777216)
theorem kept_but {K : Frag} {h h' : Heap} {x : Addr} (X : K.In h) (hx : K.lookup x = none) (k : ∀ b o, b ≠ x → h.get? b = some o → h'.get? b = some o) : K.In h' := fun a o e =>
  k a o (fun z => by rw [z, hx] at e; cases e) (X a o e)
theorem ldC {M : Model} {s : Shared} {name : Str} {scope : Scope} {L a : Addr} {cd : Value} {m : Str → Option Value} {x : Str} {pos : Pos} {v : Value} {Q : Value → Shared → Prop} {A : Around} {E : Value → Shared → Prop} (hn : s.heap.Ns L m) (hv : m x = some v) (h : Q v s)
    (hk : scope.kind = .function := by rfl) (hl : (envOfC name scope L a cd).kindOf x = some .local := by rfl) (hd : (x == ("__debug__" : Str)) = false := by decide) :
    wpAny M A (eval (.Name x pos) (envOfC name scope L a cd)) Q E s := wpAny_Name (wpAny_loadName_local hk hl hn hv h) hd
structure InitEnd (h h' : Heap) (x C dx t1 : Addr) (v : Value) : Prop where
  keep : ∀ b o, b ≠ x → h.get? b = some o → h'.get? b = some o
  obj : h'.get? x = some { cls := .ref C, dict := some dx, data := .fields #[.ref t1, .none, .none, .none, .bool false, .none] }
  dbig : h.objs.size ≤ dx
  dne : dx ≠ x
  ns : h'.Ns1 dx (fun y => if y = "word" then some v else none)
structure OwnMade (h h' : Heap) (e C d : Addr) (v : Value) : Prop where
  keep : ∀ b o, h.get? b = some o → h'.get? b = some o
  new : h.objs.size ≤ e
  obj : ∃ oe vs, h'.get? e = some oe ∧ oe.cls = .ref C ∧ oe.dict = some d ∧ oe.data = .fields vs ∧ vs[1]? = some .none ∧ vs[2]? = some .none
  dbig : h.objs.size ≤ d
  dne : d ≠ e
  ns : h'.Ns1 d (fun y => if y = "word" then some v else none)
section
variable {prog : Program} {w : World} {A : Around} {E : Value → Shared → Prop} {R : Result → Shared → Prop} {s : Shared} {K : Frag} {mg : Str → Option Value} {C fI : Addr}
theorem nus_init (T : NUsTxt K mg C fI) {x t0 : Addr} {v : Value} (X : K.In s.heap) (hlim : s.heap.NoLimit) (hx : s.heap.get? x = some (excO C t0)) (hnx : K.lookup x = none) (hroom : A.depth < recursionLimit)
    (hq : ∀ h' tk dx, InitEnd s.heap h' x C dx t0 v → R (.ok (.ret .none)) { s with heap := h', toks := tk }) :
    codeAny (model prog w) A (.call (.ref fI) ⟨[.ref x, v], []⟩) R s := by
  obtain ⟨oc, od, doc, pm, an, cdv, ct, osl, p1, p2, q1, q2, q3, q4, ho, hcd⟩ := T.fn
  obtain ⟨nm, q, N, bs, bm, sn, sub, ab, col, dd, k0, k1, k2, k3, k5, hC, hbm⟩ := T.cls
  have hcl : clsIn K C = some { name := nm, bases := bs, mro := .ref C :: bm, ns := N, qualname := q, hasDict := true, slotNames := sn, subclasses := sub, abstract := ab, collection := col, hasDel := false } := by unfold clsIn; rw [hC] <;> rfl
  refine Att.call_fn (binds := [("self", .ref x), ("word", v)]) X hlim ho hcd hroom (BindsTo.of_eq (by first | rfl | with_unfolding_all rfl)) (by first | rfl | decide | with_unfolding_all rfl) (fun s₁ IC => ?_) rfl rfl rfl
  obtain ⟨h₁, tk₁, rfl⟩ := IC.toInCall.same
  have k : ∀ b o, s.heap.get? b = some o → h₁.get? b = some o := IC.toInCall.keep
  have hn := IC.toInCall.ns
  have hxL : s.heap.objs.size ≠ x := Nat.ne_of_gt (Heap.lt_size hx)
  have X₁ : K.In h₁ := X.keeps k
  have hx₁ := k _ _ hx
  show wpAny _ _ (execs _ _) _ _ _
  refine wpAny_execs_cons (plainObj_wpAny_Assign_Attribute ?_)
  refine ldC (v := v) hn (by first | rfl | with_unfolding_all rfl | kernel_rfl) (ldC (v := .ref x) hn (by first | rfl | with_unfolding_all rfl | kernel_rfl) ?_)
  refine set_plain X₁ (ox := excO C t0) (od := none) ⟨hx₁, rfl, rfl, trivial⟩ T.sa ?_
  refine exc_osa X₁ hx₁ hcl (show refsVE (.ref C :: bm) = true from hbm) rfl T.noN (fun h₃ tk₃ dx k₃ dn dne hx₃ hn₃ => ?_)
  show wpAny _ _ (execs _ _) _ _ _
  have z : s.heap.objs.size < h₁.objs.size := hn.lt
  exact wpAny_execs_nil (hq h₃ tk₃ dx ⟨fun b o hb e => k₃ b o hb (k b o e), hx₃, Nat.le_of_lt (Nat.lt_of_lt_of_le z dn), dne, hn₃⟩)
theorem nus_made (T : NUsTxt K mg C fI) {v : Value} (X : K.In s.heap) (hlim : s.heap.NoLimit) (hroom : A.depth + 1 < recursionLimit)
    (hq : ∀ h' tk e d, OwnMade s.heap h' e C d v → R (.ok (.ret (.ref e))) { s with heap := h', toks := tk }) :
    codeAny (model prog w) A (.call (.ref C) ⟨[v], []⟩) R s := by
  obtain ⟨nm, q, N, bs, bm, sn, sub, ab, col, dd, k0, k1, k2, k3, k5, hC, hbm⟩ := T.cls
  obtain ⟨hp, g, dr, tk, os⟩ := s
  have k : ∀ b o, hp.get? b = some o → ((hp.push (kdv_tup [v])).push (excO C hp.objs.size)).get? b = some o := fun b o e => Heap.get?_push_of_some _ (Heap.get?_push_of_some _ e)
  have hget : ((hp.push (kdv_tup [v])).push (excO C hp.objs.size)).get? (hp.objs.size + 1) = some (excO C hp.objs.size) := by heap_get
  have hnx : K.lookup (hp.objs.size + 1) = none := by
    cases e : K.lookup (hp.objs.size + 1) with
    | none => rfl
    | some o =>
      have z : hp.get? (hp.objs.size + 1) = some o := X _ _ e
      exact absurd (Nat.lt_of_succ_lt (Heap.lt_size z)) (Nat.lt_irrefl _)
  refine call_own F.excBase_ValueError (fun X => refsVE_contains X bm hbm) (X _ _ hC) (looks_findIn X T.iC) (fun self => bind_fn X self T.tC) (one_size v) ?_
  refine nus_init (s := ⟨(hp.push (kdv_tup [v])).push (excO C hp.objs.size), g, dr, tk, os⟩) T (X.keeps k) (hlim.keeps k) hget hnx ?_ fun h' tk' dx ⟨k', hx, dn, dne, hns⟩ => ?_
  · show A.depth + 1 < recursionLimit
    exact hroom
  · have old : ∀ b o, hp.get? b = some o → h'.get? b = some o := fun b o e => k' b o (Nat.ne_of_lt (Nat.lt_succ_of_lt (Heap.lt_size e))) (k b o e)
    have z : hp.objs.size + 1 + 1 ≤ dx := by
      first
        | (simpa only [Heap.size_push] using dn)
        | exact dn
        | (have q := dn; rw [Heap.size_push, Heap.size_push] at q; exact q)
    exact ⟨rfl, hq h' tk' (hp.objs.size + 1) dx ⟨old, Nat.le_succ _, ⟨_, _, hx, rfl, rfl, rfl, rfl, rfl⟩, Nat.le_trans (Nat.le_trans (Nat.le_succ _) (Nat.le_succ _)) z, dne, hns⟩⟩
end
end NUsX
end PySem
namespace L2
open PySem PySem.Spec PyProof.Rows
theorem relO_nus {v : V} {v' : Value} (r : RelV v v') (f : Str) : RelO (List.lookup f [(("word" : Str), v)]) (if f = "word" then some v' else none) := by
  by_cases hw : f = "word"
  · subst hw
    rw [if_pos rfl]
    have q : List.lookup ("word" : Str) [(("word" : Str), v)] = some v := by simp [List.lookup]
    rw [q]
    exact r
  · rw [if_neg hw]
    have qw : (f == ("word" : Str)) = false := by simpa using hw
    have q2 : List.lookup f [(("word" : Str), v)] = none := by simp [List.lookup, qw]
    rw [q2]
    trivial
section
variable {X : Cx} {C fI : Addr}
def tMkNus (C : Addr) (ta : TA) : St → Hp → XK → Prop := fun σ H Q => ta σ H fun vs H1 => ∃ v, vs = [v] ∧ ∀ d, H1 d = none → Q (.ref C) (some d) (upd H1 d (.xd [(("word" : Str), v)]))
theorem pmk_nus {a : Expr} {ta : TA} {p pos : Pos} {k : Nat} (T : PySem.NUsX.NUsTxt X.K X.mg C fI) (hr : Room k X.A) (ha : PA X [a] ta) (hg : Gl X "NotUsable" := by rfl)
    (he : starEach (a :: []) X.env = (false, eval a X.env) :: starEach [] X.env := by rfl) (hpl : (backTo pos (starEach [] X.env)).any (·.1) = false := by rfl) :
    PMk X (.Call (.Name "NotUsable" p) [a] [] pos) (tMkNus C ta) := by
  intro pins s σ H Q I h
  refine wpAny_Call_Name_kw (ld_glob I hg T.gC ?_)
  refine PySem.W.callWith_K (h₀ := X.base) I.ok.mod.kin T.kC (thn (ha.run pos pins s σ H _ I h) fun us s1 hh => ?_) he hpl
  obtain ⟨vs, H1, I1, r1, v, ev, q1⟩ := hh
  subst ev
  refine ⟨I1.kIn, ?_⟩
  cases r1 with
  | cons rv rn =>
    rename_i v' us'
    cases rn
    show wpAny _ _ (call (.ref C) [v']) _ _ _
    have hlim := I1.nolimit
    obtain ⟨hp, g, dr, tk, os⟩ := s1
    refine wpAny_call (PySem.NUsX.nus_made T I1.kIn hlim (by have := hr.dp; omega) fun h' tk' e d M => ?_)
    show MkP X pins σ Q (.ref e) ⟨h', g, dr, tk', os⟩
    obtain ⟨oe, fv, hoe, hc, hd, hdat, h1, h2⟩ := M.obj
    have hns := M.ns
    obtain ⟨G', g1, g2⟩ := restrict h' fun b => decide (b ≠ e)
    have gk : ∀ b, b ≠ e → G'.get? b = h'.get? b := fun b hb => g1 b (decide_eq_true hb)
    have ge : G'.get? e = none := g2 e (by simp)
    have old : ∀ b o, hp.get? b = some o → G'.get? b = some o := fun b o q => (gk b (Nat.ne_of_lt (Nat.lt_of_lt_of_le (Heap.lt_size q) M.new))).trans (M.keep b o q)
    have ob : ObjOk X.prog X.w (upd H1 d (.xd [(("word" : Str), v)])) G' d (.xd [(("word" : Str), v)]) :=
      ⟨_, hns.at (fun o q => (gk d M.dne).trans q), fun f => relO_nus rv f⟩
    have J : Inv X pins σ (upd H1 d (.xd [(("word" : Str), v)])) ⟨G', g, dr, tk', os⟩ := I1.laid (t' := tk') old M.dbig ob
    refine ⟨e, oe, fv, ⟨G', g, dr, tk', os⟩, _, .ref C, some d, rfl, J, fun b o q => ?_, ge, hoe, ⟨hc, hd⟩, hdat, h1, ?_, rfl, I1.bare, raises_own T.exC T.tyC, q1 d (I1.hok.fresh M.dbig)⟩
    · by_cases hb : b = e
      · have q' : G'.get? b = some o := q
        rw [hb, ge] at q'; cases q'
      · exact (gk b hb).symm.trans q
    · rw [upd_ne (Ne.symm M.dne)]
      exact I1.hok.fresh M.new
def tRaiseNus (C : Addr) (W : WX) (ta : TA) : TS := fun _ σ H => tMkNus C ta σ H fun cls d H' => W cls d σ H'
theorem ps_raiseNus {a : Expr} {ta : TA} {W : WX} {p pos pos2 : Pos} {k : Nat} (hc : X.calm = true) (T : PySem.NUsX.NUsTxt X.K X.mg C fI) (hr : Room k X.A) (tk : Takes X W) (ha : PA X [a] ta) (hg : Gl X "NotUsable" := by rfl)
    (he : starEach (a :: []) X.env = (false, eval a X.env) :: starEach [] X.env := by rfl) (hpl : (backTo pos (starEach [] X.env)).any (·.1) = false := by rfl) :
    PS X (.Raise (some (.Call (.Name "NotUsable" p) [a] [] pos)) none pos2) (tRaiseNus C W ta) := ps_raise hc tk (pmk_nus T hr ha hg he hpl)
theorem pmkN_nus {a : Expr} {ta : TA} {p pos : Pos} {k : Nat} (T : PySem.NUsX.NUsTxt X.K X.mg C fI) (hr : Room k X.A) (ha : PA X [a] ta) (hg : Gl X "NotUsable" := by rfl)
    (he : starEach (a :: []) X.env = (false, eval a X.env) :: starEach [] X.env := by rfl) (hpl : (backTo pos (starEach [] X.env)).any (·.1) = false := by rfl) :
    L2N.PMk X (.Call (.Name "NotUsable" p) [a] [] pos) (tMkNus C ta) := by
  intro pins s σ H Q I h
  refine wpAny_Call_Name_kw (ld_glob I hg T.gC ?_)
  refine PySem.W.callWith_K (h₀ := X.base) I.ok.mod.kin T.kC (thn (ha.run pos pins s σ H _ I h) fun us s1 hh => ?_) he hpl
  obtain ⟨vs, H1, I1, r1, v, ev, q1⟩ := hh
  subst ev
  refine ⟨I1.kIn, ?_⟩
  cases r1 with
  | cons rv rn =>
    rename_i v' us'
    cases rn
    show wpAny _ _ (call (.ref C) [v']) _ _ _
    have hlim := I1.nolimit
    obtain ⟨hp, g, dr, tk, os⟩ := s1
    refine wpAny_call (PySem.NUsX.nus_made T I1.kIn hlim (by have := hr.dp; omega) fun h' tk' e d M => ?_)
    show L2N.MkP X pins σ Q (.ref e) ⟨h', g, dr, tk', os⟩
    obtain ⟨oe, fv, hoe, hc, hd, hdat, h1, h2⟩ := M.obj
    have hns := M.ns
    obtain ⟨G', g1, g2⟩ := restrict h' fun b => decide (b ≠ e)
    have gk : ∀ b, b ≠ e → G'.get? b = h'.get? b := fun b hb => g1 b (decide_eq_true hb)
    have ge : G'.get? e = none := g2 e (by simp)
    have old : ∀ b o, hp.get? b = some o → G'.get? b = some o := fun b o q => (gk b (Nat.ne_of_lt (Nat.lt_of_lt_of_le (Heap.lt_size q) M.new))).trans (M.keep b o q)
    have ob : ObjOk X.prog X.w (upd H1 d (.xd [(("word" : Str), v)])) G' d (.xd [(("word" : Str), v)]) :=
      ⟨_, hns.at (fun o q => (gk d M.dne).trans q), fun f => relO_nus rv f⟩
    have J : Inv X pins σ (upd H1 d (.xd [(("word" : Str), v)])) ⟨G', g, dr, tk', os⟩ := I1.laid (t' := tk') old M.dbig ob
    refine ⟨e, oe, fv, ⟨G', g, dr, tk', os⟩, _, .ref C, some d, rfl, J, fun b o q => ?_, ge, hoe, ⟨hc, hd, fun vs e => by rw [hdat] at e; cases e; exact h2⟩, hdat, h1, ?_, rfl, I1.bare, raises_own T.exC T.tyC, q1 d (I1.hok.fresh M.dbig)⟩
    · by_cases hb : b = e
      · have q' : G'.get? b = some o := q
        rw [hb, ge] at q'; cases q'
      · exact (gk b hb).symm.trans q
    · rw [upd_ne (Ne.symm M.dne)]
      exact I1.hok.fresh M.new
theorem psN_raiseNus {a : Expr} {ta : TA} {W : WX} {p pos pos2 : Pos} {k : Nat} (hc : X.calm = true) (T : PySem.NUsX.NUsTxt X.K X.mg C fI) (hr : Room k X.A) (tk : L2N.Takes X W) (ha : PA X [a] ta) (hg : Gl X "NotUsable" := by rfl)
    (he : starEach (a :: []) X.env = (false, eval a X.env) :: starEach [] X.env := by rfl) (hpl : (backTo pos (starEach [] X.env)).any (·.1) = false := by rfl) :
    PS X (.Raise (some (.Call (.Name "NotUsable" p) [a] [] pos)) none pos2) (tRaiseNus C W ta) := L2N.ps_raise hc tk (pmkN_nus T hr ha hg he hpl)
def tByNus (C : Addr) (a : Addr) (cls : Value) (d : Option Addr) (te : TE) : TE := fun σ H Q => te σ H fun x H1 => x = .ref a ∧ cls = .ref C ∧ ∃ (dd : Addr) (v : V), d = some dd ∧ H1 dd = some (.xd [(("word" : Str), v)]) ∧ Q v H1
theorem pe_byNus {a : Addr} {oe : Obj} {cls : Value} {d : Option Addr} {pn : List (Addr × Obj)} {e : Expr} {te : TE} {pos : Pos} (T : PySem.NUsX.NUsTxt X.K X.mg C fI) (hz : Zc cls d oe) (hf : ∃ vs, oe.data = .fields vs) (he : PE (X.suite a ((a, oe) :: pn)) e te)
    (hb : attributeBase e "word" X.env (eval e X.env) = eval e X.env := by rfl) :
    PE (X.suite a ((a, oe) :: pn)) (.Attribute e "word" pos) (tByNus C a cls d te) := by
  refine ⟨fun pins s σ H Q I h => ?_⟩
  refine attr_of hb (thn (he.run pins s σ H _ I h) fun u s1 hh => ?_)
  obtain ⟨x, H1, I1, rx, ex, ec, dd, v, ed, ea, q⟩ := hh
  subst ex
  obtain rfl : u = Value.ref a := rx
  subst ec
  subst ed
  obtain ⟨ha, _⟩ := I1.pin (a, oe) (List.mem_append_left _ List.mem_cons_self)
  obtain ⟨vs, hd⟩ := hf
  have hx : ObjOk X.prog X.w H1 s1.heap dd (.xd [(("word" : Str), v)]) := I1.hok dd _ ea
  obtain ⟨mA, hns, hr⟩ := hx
  obtain ⟨od, ho, hl⟩ := lookIn_ns hns
  have l : List.lookup ("word" : Str) [(("word" : Str), v)] = some v := by simp [List.lookup]
  obtain ⟨u, hu, ru⟩ := RelO.some_of (v := v) (o := mA "word") (by rw [← l]; exact hr "word")
  have J : PySem.W.InstAt s1.heap a oe C (some od) := ⟨ha, hz.1, by unfold PySem.W.notCls; rw [hd] <;> rfl, by rw [hz.2]; exact ho⟩
  exact HandSPX.exc_get I1.kIn J T.ga T.gg T.exC (PySem.W.findObj_own T.hdC T.noN rfl (by rw [hl, hu])) (handed_of ru) ⟨v, H1, I1.tok _, ru, q⟩
end
end L2
set_option Elab.async false
set_option linter.all false
set_option maxRecDepth 100000
set_option maxHeartbeats 2000000
namespace Ver
open PySem PySem.Spec PyProof.Rows L2

def kindOfD : PyData → String
  | .none => "NoneType"
  | .bool _ => "bool"
  | .int _ => "int"
  | .str _ => "str"
  | .list _ => "list"
  | .tuple _ => "tuple"
  | .dict _ => "dict"
theorem tyx_of {K : PySem.W.Frag} {H : Hp} {x : V} {d : PyData} (h : Dp K H x d) : TyX K H x (.type (kindOfD d)) := by
  cases h with
  | non => exact .base .non
  | bl b => exact .base (.bl b)
  | int i => exact .base (.int i)
  | str s => exact .base (.str s)
  | lst hs _ =>
    rcases hs with (hs | ⟨o, hs⟩) | ⟨o, its, n, hk, hc, _⟩
    · exact .base (.lst hs)
    · exact .base (.frz hs)
    · exact .kList hk hc
  | tup hs _ =>
    rcases hs with (hs | ⟨o, hs⟩) | ⟨o, its, n, hk, hc, _⟩
    · exact .base (.tup hs)
    · exact .fTuple hs
    · exact .kTuple hk hc
def isaK (n k : String) : Bool := k == n || (n == "int" && k == "bool")
abbrev isaD (n : String) (d : PyData) : Bool := isaK n (kindOfD d)
def kinds7 : List String := ["NoneType", "bool", "int", "str", "list", "tuple", "dict"]
def asked5 : List String := ["int", "bool", "str", "tuple", "list"]
theorem kind_in (d : PyData) : kindOfD d ∈ kinds7 := by cases d <;> simp [kindOfD, kinds7]
theorem kit_all : kinds7.all (fun k => asked5.all fun n => kitB k n == some (isaK n k)) = true := by decide +kernel
theorem kit_asked {K : PySem.W.Frag} {n : String} (h : n ∈ asked5) (d : PyData) : PySem.W.kitOne K (.type (kindOfD d)) (.type n) = some (isaD n d) := by
  have h1 := List.all_eq_true.mp kit_all _ (kind_in d)
  exact kit_ty (eq_of_beq (List.all_eq_true.mp h1 _ h))
def rIsiD (K : PySem.W.Frag) (n : String) : List V → Hp → VK → Prop := fun vs H Q => ∃ x d, vs = [x, .ty n] ∧ Dp K H x d ∧ Q (.bl (isaD n d)) H
section
variable {X : Cx}
theorem cr_isiD {n : String} (hn : n ∈ asked5) : CallR X (.builtin "isinstance") (rIsiD X.K n) := by
  intro pins s σ H xs us Q I r h
  obtain ⟨x, d, rfl, hd, q⟩ := h
  exact call_isi pins s σ H _ us Q I r ⟨x, .ty n, _, _, _, rfl, .ty n, tyx_of hd, kit_asked hn d, q⟩

def tCallKw (sp : Sp) (n : Nat) (gV : List V → List V) (E : L2.St → XK) (tk : TA) : TE := fun σ H Q => tk σ H fun zs H1 => zs.length = n ∧ sp (gV zs) H1 Q (E σ)
variable {CX : CXT} {k : Nat} {f : Addr} {fd : FuncData} {ps ks : List Str} {sp : Sp} {E : L2.St → XK} {x : Str} {p pos : Pos} {kws : List Keyword} {tk : TA} {g : List Value → List Value} {gV : List V → List V}
theorem pe_callKw (F : FnOk X.prog X.w X.K X.mg X.base CX k f fd ps sp) (hr : Room k X.A) (hg : Gl X x) (hm : X.mg x = some (.ref f)) (hk : PySem.W.keepIn X.K (.ref f) = true)
    (hb : KBn X.K fd ps 0 ks (fun _ ws => g ws) (fun _ zs => gV zs)) (hx : ∀ σ, PassesAt CX X σ (E σ)) (hkw : PK X kws tk)
    (hall : (backToKw pos (keywordEach kws X.env)).all (·.1.isSome) = true := by rfl) (hks : (backToKw pos (keywordEach kws X.env)).filterMap (·.1) = ks := by rfl) (hdb : (x == ("__debug__" : Str)) = false := by decide)
    (hpl : ((backTo pos (starEach [] X.env)).any (·.1) || (backToKw pos (keywordEach kws X.env)).any (·.1.isNone)) = false := by rfl) :
    PE X (.Call (.Name x p) [] kws pos) (tCallKw sp ks.length gV E tk) := by
  refine ⟨fun pins s σ H Q I h => ?_⟩
  refine wpAny_Call_Name_kw (ld_glob I hg hm ?_ hdb)
  refine PySem.W.callWith_KW0 (h₀ := X.base) I.ok.mod.kin hk hall ?_ hpl
  refine thn (hkw.run pos pins s σ H _ I h) fun ws s2 ⟨zs, H2, I2, rz, hl, q⟩ => ⟨I2.kIn, ?_⟩
  rw [hks]
  have r2 : Vals (gV zs) (g ws) := hb.rel (vs := []) (us := []) .nil rz
  have hto : BindsTo s2 fd ⟨[], ks.zip ws⟩ (ps.zip (g ws)) := hb.to s2 [] ws I2.kIn rfl (rz.length.symm.trans hl)
  show wpAny _ _ (call (.ref f) [] (ks.zip ws)) _ _ _
  refine wpAny_call (codeAny_mono (F.run X.A X.stack s2 H2 ⟨[], ks.zip ws⟩ (g ws) (gV zs) Q (E σ) hr I2.env0 hto r2 q) fun r s' hq => ?_)
  cases r with
  | error e => exact hx σ pins H2 s2 e s' I2 hq
  | ok fl =>
    cases fl with
    | ret u => exact I2.after hq
    | next => exact False.elim hq
    | brk => exact False.elim hq
    | cont => exact False.elim hq

theorem tuple_mul1 (l : Addr) (items : Array Value) (n : Nat) (dd : Option Addr) (sl : Array (Option Value)) (u : Tok) :
    Meets (Builtin.«tuple.__mul__» ⟨[.ref l, .int 1 u], []⟩) (fun _ R s => s.heap.get? l = some { cls := .type "tuple", dict := dd, data := .seq items n, slots := sl } ∧ R (.ok (.ret (Value.ref l))) s) :=
  .of_wp fun prog w A R s h => by
    obtain ⟨hp, g, d, tk, os⟩ := s
    obtain ⟨hl, h⟩ := h
    have f1 := AutoSeq1.idx_int
    wp_walk using wpAny_loadPart' hl
    exact ⟨_, rfl, h⟩
def rRepA (K : PySem.W.Frag) : R2 := fun x y H Q => ∃ l k xs, x = .ref l ∧ y = .int k ∧ SqT K H l xs ∧ xs ≠ [] ∧ 1 ≤ k ∧ k ≤ 1000 ∧ xs.length ≤ 1000 ∧
  (k = 1 → Q (.ref l) H) ∧ (k ≠ 1 → ∀ p, H p = none → Q (.ref p) (upd H p (.tup (List.replicate k.toNat xs).flatten)))
theorem op_repA : OpR X (binaryOp .Mult) (rRepA X.K) := by
  intro pins s σ H x y v u Q I rx ry h
  obtain ⟨l, k, xs, rfl, rfl, hT, hne, h1, h2, hz, q1, q2⟩ := h
  by_cases h3 : k = 1
  · subst h3
    cases rx
    obtain ⟨t, rfl⟩ := ry
    obtain ⟨its, r, ⟨⟨cls, dd, data, sl⟩, ho, hc, n, hd⟩, hs⟩ := I.tuple hT
    simp only at hc hd
    subst hc hd
    exact wpAny_binaryOp_repeat_ref (T := "tuple") (U := "int") (by decide) ⟨_, ho, rfl⟩ (fun s' => typeIs_int s' 1 t) noFill_tuple_mul F.fills_int_mul F.slot_int_rmul repeat_tuple F.slot_int_index.lookup
      (call_meets F.slot_int_rmul (typeIs_int s 1 t) F.entry_int_rmul (F.args_int_rmul_2 _ _) (int_rmul_tuple 1 t l its.toArray n dd sl)
        ⟨ho, rfl, ⟨_, ho, rfl⟩, call_meets F.slot_tuple_mul ⟨_, ho, rfl⟩ F.entry_tuple_mul (F.args_tuple_mul_2 _ _) (tuple_mul1 l its.toArray n dd sl t) ⟨ho, .ref l, H, I, rfl, q1 rfl⟩⟩)
  · exact op_repT pins s σ H _ _ v u Q I rx ry ⟨l, k, xs, rfl, rfl, hT, hne, by omega, h2, hz, q2 h3⟩
end

theorem seqT_grow {K : PySem.W.Frag} {H H' : Hp} {a : Addr} {xs : List V} (e : Same H H') (h : SqT K H a xs) : SqT K H' a xs := by
  rcases h with (h | ⟨o, h⟩) | h
  · exact .inl (.inl (e _ _ h))
  · exact .inl (.inr ⟨o, e _ _ h⟩)
  · exact .inr h
mutual
theorem dp_grow {K : PySem.W.Frag} {H H' : Hp} (e : Same H H') : ∀ {d : PyData} {v : V}, Dp K H v d → Dp K H' v d
  | .none, _, h => by cases h; exact .non
  | .bool b, _, h => by cases h; exact .bl b
  | .int i, _, h => by cases h; exact .int i
  | .str x, _, h => by cases h; exact .str x
  | .list ds, _, h => by
    cases h with
    | lst hs ha => exact .lst (e.seq hs) (dpAll_grow e ha)
  | .tuple ds, _, h => by
    cases h with
    | tup hs ha => exact .tup (seqT_grow e hs) (dpAll_grow e ha)
  | .dict _, _, h => by cases h
theorem dpAll_grow {K : PySem.W.Frag} {H H' : Hp} (e : Same H H') : ∀ {ds : List PyData} {vs : List V}, DpAll K H vs ds → DpAll K H' vs ds
  | [], _, h => by cases h; exact .nil
  | d :: ds, _, h => by
    cases h with
    | cons h1 h2 => exact .cons (dp_grow e h1) (dpAll_grow e h2)
end
theorem same_new {H : Hp} {p : Addr} {o : HO} (h : H p = none) : Same H (upd H p o) := fun b x e => by
  rw [upd_ne (ne_of_none e h)]
  exact e
end Ver
set_option Elab.async false
set_option linter.all false
set_option maxRecDepth 100000
set_option maxHeartbeats 2000000
namespace Ver
open PySem PySem.Spec PyProof.Rows L2
theorem wipe_one (σ : L2.St) (i : Nat) (v : Option V) : wipe ((wipe σ [i]).set i v) [i] = wipe σ [i] := by
  show (((σ.set i none).set i v).set i none) = σ.set i none
  rw [List.set_set, List.set_set]
def Turned (D : Addr) (S : List V → Hp → Prop) (n : Nat) : VK := fun y H4 => ∃ acc, H4 D = some (.lst acc) ∧ acc.length < sizeLine ∧ ∃ acc2, acc2.length = n + 1 ∧ S acc2 (upd H4 D (.lst (acc ++ [y]))) ∧ (upd H4 D (.lst (acc ++ [y]))) D = some (.lst acc2)
theorem turned {D : Addr} {S : List V → Hp → Prop} {acc : List V} {y : V} {H4 : Hp} (hD : H4 D = some (.lst acc)) (hz : acc.length < sizeLine) (s : S (acc ++ [y]) (upd H4 D (.lst (acc ++ [y])))) : Turned D S acc.length y H4 :=
  ⟨acc, hD, hz, acc ++ [y], by rw [List.length_append]; rfl, s, upd_same⟩
section
variable {K : PySem.W.Frag} {a : Addr} {xs : List V} {i : Nat} {te : TE} {σ : L2.St} {H1 : Hp} {D : Addr} {Qd : Hp → Prop}
theorem comp_tup (S : List V → Hp → Prop) (h0 : S [] (upd H1 D (.lst []))) (hl : ∀ acc H, S acc H → SqT K H a xs)
    (hs : ∀ acc x H, xs[acc.length]? = some x → S acc H → H D = some (.lst acc) → te ((wipe σ [i]).set i (some x)) H (Turned D S acc.length))
    (hd : ∀ acc H, acc.length = xs.length → S acc H → H D = some (.lst acc) → Qd H) :
    ∃ W : Nat → Nat → Hp → Prop, (∃ m, W 0 m (upd H1 D (.lst []))) ∧ ∀ j m H, W j m H →
      ((Itt K a).stop j H ∧ Qd H) ∨ ((Itt K a).go j H ∧ ∃ Nx : Hp → Prop, (∀ H', Nx H' → ∃ m', m' < m ∧ W (j + 1) m' H') ∧ ∀ x H', (Itt K a).yld j H x H' → gName i x (wipe σ [i]) H' fun σ2 H2 => wipe σ2 [i] = wipe σ [i] ∧ tYes σ2 H2 fun b H3 =>
        if b = true then te σ2 H3 fun y H4 => ∃ acc, H4 D = some (.lst acc) ∧ acc.length < sizeLine ∧ Nx (upd H4 D (.lst (acc ++ [y]))) else Nx H3) := by
  refine lc_tup (K := K) (a := a) (xs := xs) (fun n H => ∃ acc, acc.length = n ∧ S acc H ∧ H D = some (.lst acc)) ⟨[], rfl, h0, upd_same⟩ (fun n H _ ⟨acc, _, h, _⟩ => hl acc H h) (fun n x H e ⟨acc, hn, h, hD⟩ => ?_) (fun H ⟨acc, hn, h, hD⟩ => hd acc H hn h hD)
  subst hn
  refine ⟨wipe_one σ i _, ?_⟩
  unfold tYes
  dsimp only
  rw [if_pos rfl]
  exact hs acc x H e h hD
theorem comp_list (S : List V → Hp → Prop) (h0 : S [] (upd H1 D (.lst []))) (hl : ∀ acc H, S acc H → SqL K H a xs)
    (hs : ∀ acc x H, xs[acc.length]? = some x → S acc H → H D = some (.lst acc) → te ((wipe σ [i]).set i (some x)) H (Turned D S acc.length))
    (hd : ∀ acc H, acc.length = xs.length → S acc H → H D = some (.lst acc) → Qd H) :
    ∃ W : Nat → Nat → Hp → Prop, (∃ m, W 0 m (upd H1 D (.lst []))) ∧ ∀ j m H, W j m H →
      ((Itl K a).stop j H ∧ Qd H) ∨ ((Itl K a).go j H ∧ ∃ Nx : Hp → Prop, (∀ H', Nx H' → ∃ m', m' < m ∧ W (j + 1) m' H') ∧ ∀ x H', (Itl K a).yld j H x H' → gName i x (wipe σ [i]) H' fun σ2 H2 => wipe σ2 [i] = wipe σ [i] ∧ tYes σ2 H2 fun b H3 =>
        if b = true then te σ2 H3 fun y H4 => ∃ acc, H4 D = some (.lst acc) ∧ acc.length < sizeLine ∧ Nx (upd H4 D (.lst (acc ++ [y]))) else Nx H3) := by
  refine lc_list (K := K) (a := a) (xs := xs) (fun n H => ∃ acc, acc.length = n ∧ S acc H ∧ H D = some (.lst acc)) ⟨[], rfl, h0, upd_same⟩ (fun n H _ ⟨acc, _, h, _⟩ => hl acc H h) (fun n x H e ⟨acc, hn, h, hD⟩ => ?_) (fun H ⟨acc, hn, h, hD⟩ => hd acc H hn h hD)
  subst hn
  refine ⟨wipe_one σ i _, ?_⟩
  unfold tYes
  dsimp only
  rw [if_pos rfl]
  exact hs acc x H e h hD
theorem comp_range {n : Nat} (S : List V → Hp → Prop) (h0 : S [] (upd H1 D (.lst [])))
    (hs : ∀ acc H, acc.length < n → S acc H → H D = some (.lst acc) → te ((wipe σ [i]).set i (some (.int (acc.length : Int)))) H (Turned D S acc.length))
    (hd : ∀ acc H, acc.length = n → S acc H → H D = some (.lst acc) → Qd H) :
    ∃ W : Nat → Nat → Hp → Prop, (∃ m, W 0 m (upd H1 D (.lst []))) ∧ ∀ j m H, W j m H →
      ((Itr 0 n).stop j H ∧ Qd H) ∨ ((Itr 0 n).go j H ∧ ∃ Nx : Hp → Prop, (∀ H', Nx H' → ∃ m', m' < m ∧ W (j + 1) m' H') ∧ ∀ x H', (Itr 0 n).yld j H x H' → gName i x (wipe σ [i]) H' fun σ2 H2 => wipe σ2 [i] = wipe σ [i] ∧ tYes σ2 H2 fun b H3 =>
        if b = true then te σ2 H3 fun y H4 => ∃ acc, H4 D = some (.lst acc) ∧ acc.length < sizeLine ∧ Nx (upd H4 D (.lst (acc ++ [y]))) else Nx H3) := by
  refine lc_range (lo := 0) (n := n) (fun k H => ∃ acc, acc.length = k ∧ S acc H ∧ H D = some (.lst acc)) ⟨[], rfl, h0, upd_same⟩ (fun k H lt ⟨acc, hn, h, hD⟩ => ?_) (fun H ⟨acc, hn, h, hD⟩ => hd acc H hn h hD)
  subst hn
  rw [Int.zero_add]
  refine ⟨wipe_one σ i _, ?_⟩
  unfold tYes
  dsimp only
  rw [if_pos rfl]
  exact hs acc H lt h hD
end
theorem for_range0 {n : Nat} {g : TG} {tb : TS} {D : Ends} {σ : L2.St} {H : Hp} (Pv : Nat → L2.St → Hp → Prop) (h0 : Pv 0 σ H)
    (hs : ∀ i σ H, i < n → Pv i σ H → g (.int (i : Int)) σ H fun σ2 H2 => tb { D with nx := Pv (i + 1), ct := Pv (i + 1), bk := D.nx } σ2 H2) (hd : ∀ σ H, Pv n σ H → D.nx σ H) :
    ∃ W : Nat → Nat → L2.St → Hp → Prop, (∃ m, W 0 m σ H) ∧ ∀ i m σ H, W i m σ H →
      ((Itr 0 n).stop i H ∧ D.nx σ H) ∨ ((Itr 0 n).go i H ∧ ∃ N : L2.St → Hp → Prop, (∀ σ' H', N σ' H' → ∃ m', m' < m ∧ W (i + 1) m' σ' H') ∧ ∀ x H', (Itr 0 n).yld i H x H' → g x σ H' fun σ2 H2 => tb { D with nx := N, ct := N, bk := D.nx } σ2 H2) :=
  for_range (lo := 0) (n := n) Pv h0 (fun i σ H lt h => by rw [Int.zero_add]; exact hs i σ H lt h) hd
section
variable {X : Cx} {K : PySem.W.Frag}
def rLenQ (K : PySem.W.Frag) : List V → Hp → VK → Prop := fun xs H Q => ∃ p ys, xs = [.ref p] ∧ (SqL K H p ys ∨ SqT K H p ys) ∧ Q (.int ys.length) H
theorem cr_lenK (h : X.K = K) : CallR X (.builtin "len") (rLenQ K) := by
  subst h
  exact call_len_seq
theorem ix_tupK (h : X.K = K) : IxR X (rIxT K) := by
  subst h
  exact ix_tup
theorem ix_listK (h : X.K = K) : IxR X (rIxL K) := by
  subst h
  exact ix_list
end
section
variable {X : Cx} {K : PySem.W.Frag} {tg l : Expr} {tl : TE}
theorem pi_tupK (h : X.K = K) (hl : PE X l tl) : PI X tg l (iTup K tl) := by
  subst h
  exact pi_tup hl
theorem pi_listK (h : X.K = K) (hl : PE X l tl) : PI X tg l (iList K tl) := by
  subst h
  exact pi_list hl
theorem cr_minK (h : X.K = K) (hc : X.calm = true) : CallR X (.builtin "min") (rMin K) := by
  subst h
  exact cr_min hc
end
def lcScope : Expr → Scope
  | .ListComp _ _ sc _ => sc
  | _ => { kind := .function, names := [], isGenerator := false, isCoroutine := false }
def asgVal : Stmt → Expr
  | .Assign _ e _ => e
  | _ => .Constant .none 0 ⟨0, 0, 0, 0⟩
def SameBut1 (p : Addr) (H H' : Hp) : Prop := ∀ b o, b ≠ p → H b = some o → H' b = some o
theorem small {n : Nat} (h : n ≤ 100000) : n < sizeLine := Nat.lt_of_le_of_lt h (by decide)
theorem small' {n : Nat} (h : n ≤ 100000) : n ≤ sizeLine := Nat.le_of_lt (small h)
theorem dpAll_len {K : PySem.W.Frag} {H : Hp} : ∀ {vs : List V} {ds : List PyData}, DpAll K H vs ds → vs.length = ds.length
  | _, [], h => by cases h; rfl
  | _, d :: ds, h => by
    cases h with
    | cons _ t => rw [List.length_cons, List.length_cons, dpAll_len t]
theorem dpAll_get {K : PySem.W.Frag} {H : Hp} : ∀ {vs : List V} {ds : List PyData} {i : Nat} {v : V}, DpAll K H vs ds → vs[i]? = some v → ∃ d, ds[i]? = some d ∧ Dp K H v d
  | _, [], i, v, h, e => by cases h; simp at e
  | _, d :: ds, 0, v, h, e => by
    cases h with
    | cons h1 _ =>
      have e' := Option.some.inj e
      subst e'
      exact ⟨d, rfl, h1⟩
  | _, d :: ds, i + 1, v, h, e => by
    cases h with
    | cons _ t => exact dpAll_get (i := i) t e
theorem dpAll_get' {K : PySem.W.Frag} {H : Hp} : ∀ {vs : List V} {ds : List PyData} {i : Nat} {d : PyData}, DpAll K H vs ds → ds[i]? = some d → ∃ v, vs[i]? = some v ∧ Dp K H v d
  | _, [], i, d, h, e => by cases h; simp at e
  | _, d :: ds, 0, d', h, e => by
    cases h with
    | cons h1 _ =>
      have e' := Option.some.inj e
      subst e'
      exact ⟨_, rfl, h1⟩
  | _, d :: ds, i + 1, d', h, e => by
    cases h with
    | cons _ t => exact dpAll_get' (i := i) t e
theorem dpAll_ints {K : PySem.W.Frag} {H : Hp} : ∀ (ns : List Int), DpAll K H (ns.map V.int) (ns.map PyData.int)
  | [] => .nil
  | n :: ns => .cons (.int n) (dpAll_ints ns)
theorem isa_int (d : PyData) : isaD "int" d = match d with | .int _ => true | .bool _ => true | _ => false := by cases d <;> rfl
theorem isa_bool (d : PyData) : isaD "bool" d = match d with | .bool _ => true | _ => false := by cases d <;> rfl
theorem isa_str (d : PyData) : isaD "str" d = match d with | .str _ => true | _ => false := by cases d <;> rfl
theorem isa_tuple (d : PyData) : isaD "tuple" d = match d with | .tuple _ => true | _ => false := by cases d <;> rfl
theorem isa_list (d : PyData) : isaD "list" d = match d with | .list _ => true | _ => false := by cases d <;> rfl
end Ver
set_option Elab.async false
set_option linter.all false
set_option maxRecDepth 100000
set_option maxHeartbeats 2000000
namespace Ver
open PySem PySem.Spec PyProof.Rows L2
theorem comp_str {x : Str} {te : TE} {σ : L2.St} {H1 : Hp} {D : Addr} {i : Nat} {Qd : Hp → Prop} (S : List V → Hp → Prop) (h0 : S [] (upd H1 D (.lst [])))
    (hs : ∀ acc c H, x.cps[acc.length]? = some c → S acc H → H D = some (.lst acc) → te ((wipe σ [i]).set i (some (.str ⟨#[c]⟩))) H (Turned D S acc.length))
    (hd : ∀ acc H, acc.length = x.length → S acc H → H D = some (.lst acc) → Qd H) :
    ∃ W : Nat → Nat → Hp → Prop, (∃ m, W 0 m (upd H1 D (.lst []))) ∧ ∀ j m H, W j m H →
      ((Its x).stop j H ∧ Qd H) ∨ ((Its x).go j H ∧ ∃ Nx : Hp → Prop, (∀ H', Nx H' → ∃ m', m' < m ∧ W (j + 1) m' H') ∧ ∀ y H', (Its x).yld j H y H' → gName i y (wipe σ [i]) H' fun σ2 H2 => wipe σ2 [i] = wipe σ [i] ∧ tYes σ2 H2 fun b H3 =>
        if b = true then te σ2 H3 fun y H4 => ∃ acc, H4 D = some (.lst acc) ∧ acc.length < sizeLine ∧ Nx (upd H4 D (.lst (acc ++ [y]))) else Nx H3) := by
  refine ⟨fun j m H => m = x.length - j ∧ j ≤ x.length ∧ ∃ acc, acc.length = j ∧ S acc H ∧ H D = some (.lst acc), ⟨x.length, by simp, Nat.zero_le _, [], rfl, h0, upd_same⟩, ?_⟩
  rintro j m H ⟨rfl, hj, acc, hn, h, hD⟩
  by_cases hlt : j < x.length
  · refine .inr ⟨hlt, fun H => ∃ acc, acc.length = j + 1 ∧ S acc H ∧ H D = some (.lst acc), fun H' p' => ⟨x.length - (j + 1), by omega, rfl, hlt, p'⟩, fun y H' hy => ?_⟩
    obtain ⟨e, c, ec, ev⟩ := hy
    subst e ev hn
    refine ⟨wipe_one σ i _, ?_⟩
    unfold tYes
    dsimp only
    rw [if_pos rfl]
    exact hs acc c _ ec h hD
  · exact .inl ⟨Nat.le_of_not_lt hlt, hd acc H (by omega) h hD⟩
theorem for_str {x : Str} {g : TG} {tb : TS} {D : Ends} {σ : L2.St} {H : Hp} (Pv : Nat → L2.St → Hp → Prop) (h0 : Pv 0 σ H)
    (hs : ∀ i c σ H, x.cps[i]? = some c → Pv i σ H → g (.str ⟨#[c]⟩) σ H fun σ2 H2 => tb { D with nx := Pv (i + 1), ct := Pv (i + 1), bk := D.nx } σ2 H2) (hd : ∀ σ H, Pv x.length σ H → D.nx σ H) :
    ∃ W : Nat → Nat → L2.St → Hp → Prop, (∃ m, W 0 m σ H) ∧ ∀ i m σ H, W i m σ H →
      ((Its x).stop i H ∧ D.nx σ H) ∨ ((Its x).go i H ∧ ∃ N : L2.St → Hp → Prop, (∀ σ' H', N σ' H' → ∃ m', m' < m ∧ W (i + 1) m' σ' H') ∧ ∀ y H', (Its x).yld i H y H' → g y σ H' fun σ2 H2 => tb { D with nx := N, ct := N, bk := D.nx } σ2 H2) := by
  refine ⟨fun i m σ H => m = x.length - i ∧ i ≤ x.length ∧ Pv i σ H, ⟨x.length, by simp, Nat.zero_le _, h0⟩, ?_⟩
  rintro i m σ H ⟨rfl, hi, p⟩
  by_cases hlt : i < x.length
  · refine .inr ⟨hlt, Pv (i + 1), fun σ' H' p' => ⟨x.length - (i + 1), by omega, rfl, hlt, p'⟩, fun y H' hy => ?_⟩
    obtain ⟨e, c, ec, ev⟩ := hy
    subst e ev
    exact hs i c σ _ ec p
  · have e : i = x.length := by omega
    subst e
    exact .inl ⟨Nat.le_refl _, hd σ H p⟩
end Ver
set_option Elab.async false
set_option linter.all false
set_option maxRecDepth 100000
set_option maxHeartbeats 4000000
namespace PySem
open Sem (wp)
open AutoSeq1 (wpAny_loadPart')
theorem meets_enum_new1 {v : Value} {o : Obj} {H : Heap → Prop} (B : Begins v o H) :
    Meets (Builtin.«enumerate.__new__» ⟨[.type "enumerate", v], []⟩) (fun _ R s => H s.heap ∧
      R (.ok (.ret (.ref (s.heap.push o).objs.size))) { s with heap := (s.heap.push o).push { cls := .type "enumerate", data := .fields #[.none, .bool false, .ref s.heap.objs.size, rawInt 0, .none, .none] } }) :=
  .of_wp fun prog w A R s h => by
    obtain ⟨hp, g, d, tk, os⟩ := s; obtain ⟨h1, h⟩ := h
    have hsub := sub_enumerate
    have q1 : ∀ {A' : Around} {E : Value → Shared → Prop} {Q : Value → Shared → Prop}, Q (.ref hp.objs.size) ⟨hp.push o, g, d, tk, os⟩ → wpAny (model prog w) A' (pyIter v) Q E ⟨hp, g, d, tk, os⟩ :=
      fun q => B.iter prog w _ _ ⟨hp, g, d, tk, os⟩ _ h1 q
    wp_walk using q1
    refine wpAny_stack_any fun st => wpAny_pure ?_
    split
    · rename_i c _ _ _ _ _
      cases (c == Value.type "enumerate")
      · wp_walk using q1
        exact ⟨_, rfl, h⟩
      · wp_walk using q1
        exact ⟨_, rfl, h⟩
    · wp_walk using q1
      exact ⟨_, rfl, h⟩
theorem enum_begins1 {prog : Program} {w : World} {A : Around} {E : Value → Shared → Prop} {s : Shared} {v : Value} {o : Obj} {H : Heap → Prop} {Q : Value → Shared → Prop} (B : Begins v o H) (h1 : H s.heap)
    (h : ∀ h', IsEnum h' (s.heap.objs.size + 1) s.heap.objs.size 0 .none → h'.get? s.heap.objs.size = some o → h'.objs.size = s.heap.objs.size + 2 →
      (∀ b o, s.heap.get? b = some o → h'.get? b = some o) → Q (.ref (s.heap.objs.size + 1)) { s with heap := h' }) :
    wpAny (model prog w) A (call (.type "enumerate") [v]) Q E s := by
  refine callType_new F.called_enumerate (by decide) (F.typeCall_enumerate_1 _) (F.newCall_enumerate_1 _) (fun obj => F.args_object_init_2 obj _) F.entry_enumerate_new
    (meets_enum_new1 B) ⟨h1, ?_⟩
  have hz : (s.heap.push o).objs.size = s.heap.objs.size + 1 := Heap.size_push ..
  show _ ∧ _
  rw [hz]
  have he : IsEnum ((s.heap.push o).push { cls := .type "enumerate", data := .fields #[.none, .bool false, .ref s.heap.objs.size, rawInt 0, .none, .none] }) (s.heap.objs.size + 1) s.heap.objs.size 0 .none := by
    have := Heap.get?_push_size (s.heap.push o) (o := { cls := .type "enumerate", data := .fields #[.none, .bool false, .ref s.heap.objs.size, rawInt 0, .none, .none] }) rfl
    rw [hz] at this; exact this
  refine ⟨⟨_, he, rfl⟩, h _ he (Heap.get?_push_of_some _ (Heap.get?_push_size _ B.free)) (by rw [Heap.size_push, hz]) fun b o x => Heap.get?_push_of_some _ (Heap.get?_push_of_some _ x)⟩
end PySem
namespace Ver
open PySem PySem.Spec PyProof.Rows L2
def Itet (K : PySem.W.Frag) (a : Addr) : It :=
  ⟨fun i H => ∃ (xs : List V) (x : V), SqT K H a xs ∧ xs[i]? = some x, fun i H v H' => ∃ T x, v = .ref T ∧ H T = none ∧ H' = upd H T (.tup [.int (i : Nat), x]) ∧ ∀ xs, SqT K H a xs → xs[i]? = some x, fun i H => ∃ xs : List V, SqT K H a xs ∧ xs.length ≤ i⟩
theorem turn_enumT {P : Program} {w : World} {K : PySem.W.Frag} {elts : List Expr} {kk : Nat} {tpos : Pos} (a e it : Addr) :
    Turn P w K (.Tuple elts kk tpos) (Itet K a) [e, it] e (fun i h => (∃ old, IsEnum h e it ((i : Nat) : Int) old) ∧ h.IsTupleIter it a i ∧ e ≠ it) where
  mem := by simp
  obj := fun i h st b hb => by
    obtain ⟨⟨old, he⟩, ⟨o, ho, hc, hd⟩, _⟩ := st
    have e' : b = e ∨ b = it := by simpa using hb
    rcases e' with z | z
    · rw [z]; exact ⟨_, he, fun v q => nomatch q⟩
    · rw [z]; exact ⟨o, ho, fun v q => by rw [hd] at q; cases q⟩
  keep := fun i h h' st k => let ⟨⟨old, he⟩, hi, hne⟩ := st; ⟨⟨old, k e (by simp) _ he⟩, hi.at fun o q => k it (by simp) o q, hne⟩
  item := by
    intro X hP hw hK hc i pins s σ H E I hf st hg
    subst hP hw hK
    obtain ⟨⟨old, he⟩, hit, hne⟩ := st
    obtain ⟨xs, x, hq, hx⟩ := hg
    obtain ⟨its, rv, p, hz⟩ := I.tuple hq
    obtain ⟨u, hu, ru⟩ := rv.get hx
    have hel : e < s.heap.objs.size := Heap.lt_size he
    have hil : it < s.heap.objs.size := by obtain ⟨_, q, _⟩ := hit; exact Heap.lt_size q
    have nea : e ≠ a := fun z => by
      obtain ⟨o, ho, hc, _⟩ := p
      rw [← z, he] at ho
      cases ho
      injection hc with hc
      exact absurd hc (by decide)
    have nia : a ≠ it := fun z => by
      obtain ⟨o, ho, hc, _⟩ := p
      obtain ⟨o', ho', hc', _⟩ := hit
      rw [z, ho'] at ho
      cases ho
      rw [hc'] at hc
      injection hc with hc
      exact absurd hc (by decide)
    have hi : i < its.toArray.size := by
      have := (List.getElem?_eq_some_iff.mp hu).1
      simpa using this
    refine wpAny_pyNext_enum_itemD (Draws.tuple (A := X.A.in1) (I.ok.hd hc) it a nia its.toArray) he ⟨hit, p⟩ hi hne (by simp [hne, nea]) fun x' h' tk hx' ho hst' hT hsz hk => ?_
    obtain rfl : u = x' := by
      have z : its.toArray[i]? = some x' := hx'
      have z2 : its[i]? = some x' := by simpa using z
      rw [hu] at z2
      exact Option.some.inj z2
    refine ⟨_, rfl, wpAny_letOwnedTupleGo_enum (s := { s with heap := h', toks := tk + 1 }) ho fun h'' he' sb => ?_⟩
    have hT2 : h''.get? s.heap.objs.size = some { cls := .type "tuple", data := .seq #[.int i tk, u] } := (sb.2 _ (Nat.ne_of_gt hel)).trans hT
    have new : ObjOk X.prog X.w (upd H s.heap.objs.size (.tup [.int (i : Nat), x])) h'' s.heap.objs.size (.tup [.int (i : Nat), x]) :=
      ⟨by show 2 ≤ sizeLine; decide, [.int i tk, u], .cons ⟨_, rfl⟩ (.cons ru .nil), ⟨_, hT2, rfl, _, rfl⟩⟩
    have I1 : Inv X pins σ (upd H s.heap.objs.size (.tup [.int (i : Nat), x])) { s with heap := h'', toks := tk + 1 } :=
      I.turnedNew (ch := [e, it]) (fun b ob hb q => (sb.2 b (fun z => hb (by simp [z]))).trans (hk b ob (fun z => hb (by simp [z])) (fun z => hb (by simp [z])) q)) hf (Nat.le_refl _) new
    refine ⟨.ref s.heap.objs.size, _, I1, rfl, ⟨_, x, rfl, I.hok.fresh (Nat.le_refl _), rfl, fun ys hy => by rw [I.tuple_inj hy hq]; exact hx⟩, ⟨⟨u, ?_⟩, hst'.1.at fun o q => (sb.2 it (Ne.symm hne)).trans q, hne⟩, fun b hb => ?_⟩
    · have e1 : ((i + 1 : Nat) : Int) = (i : Int) + 1 := by omega
      rw [e1]; exact he'
    · have hb' : b < s.heap.objs.size := by
        have e' : b = e ∨ b = it := by simpa using hb
        rcases e' with z | z
        · rw [z]; exact hel
        · rw [z]; exact hil
      rw [upd_ne (Nat.ne_of_lt hb')]
      exact (hf b hb).1
  done := by
    intro X hP hw hK hc i pins s σ H E I hf st hg
    subst hP hw hK
    obtain ⟨⟨old, he⟩, hit, hne⟩ := st
    obtain ⟨xs, hq, hx⟩ := hg
    obtain ⟨its, rv, p, hz⟩ := I.tuple hq
    obtain ⟨f0, f1, f2, f3, f4, f5⟩ := hf it (by simp)
    have hl := rv.length
    have hT : s.TypeIs (.ref e) "enumerate" := ⟨_, he, rfl⟩
    unfold pyNext
    refine wpAny_bind (wpAny_attempt (wpAny_callSpecial?_slot (name := Str.ofString "__next__") hT F.slot_enumerate_next
      (wpAny_call_entry F.slot_enumerate_next hT F.entry_enumerate_next ?_ (F.args_enumerate_next_1 _))))
    show wpAny _ _ (field (.ref e) 2 >>= _) _ _ _
    refine wpAny_bind (wpAny_field he rfl (x := .ref it) rfl ?_)
    refine wpAny_bind (wpAny_nextOf_tuple_end (I.ok.hd hc) hit p (by simp; omega) fun h' x he' hx' => ?_)
    obtain ⟨o, ho, hc⟩ := hx'
    refine wpAny_bind (wpAny_isInstance (T := "StopIteration") (b := true) ⟨o, ho, hc⟩ isSubtype_stop ?_)
    exact wpAny_pure ⟨rfl, I.turned (t' := s.toks) (fun b o hb q => he' b o hb q) f0 f1 f3 f4 f5⟩
  self := fun A i s Q E st h => let ⟨⟨_, he⟩, _⟩ := st; wpAny_pyIter_enum he h
def iEnumT (K : PySem.W.Frag) (ta : TA) : TI := fun σ H R => ta σ H fun vs H1 => ∃ a xs, vs = [.ref a] ∧ SqT K H1 a xs ∧ R (Itet K a) H1
theorem pi_enumT {X : Cx} {e : Expr} {ta : TA} {p pos tpos : Pos} {elts : List Expr} {kk : Nat} (hg : Gl X "enumerate") (hm : X.mg "enumerate" = none) (ha : PA X [e] ta) (hs : starEach [e] X.env = [(false, eval e X.env)] := by rfl) :
    PI X (.Tuple elts kk tpos) (.Call (.Name "enumerate" p) [e] [] pos) (iEnumT X.K ta) := by
  refine ⟨fun pins s σ H R I h => ?_⟩
  refine Call_ (ld_blt I hg hm boot_enumerate (PyProof.Rows.callWith_type1 (thn (ha.run pos pins s σ H _ I h) fun us s1 ⟨vs, H1, I1, r1, q1⟩ => ?_) hs rfl))
  obtain ⟨a, xs, ex, hq, q⟩ := q1
  subst ex
  cases r1 with
  | cons r rr =>
    cases rr
    cases r
    obtain ⟨its, rv, p', hz⟩ := I1.tuple hq
    refine enum_begins1 (begins_tuple a its.toArray) p' fun h' he hio hsz hk => wpAny_pyIter_enum he ?_
    have I2 : Inv X pins σ H1 { s1 with heap := h' } := I1.kept (t' := s1.toks) hk
    refine ⟨s1.heap.objs.size + 1, [s1.heap.objs.size + 1, s1.heap.objs.size], _, _, H1, rfl, I2, turn_enumT a (s1.heap.objs.size + 1) s1.heap.objs.size, ⟨⟨.none, he⟩, ⟨_, hio, rfl, rfl⟩, Nat.succ_ne_self _⟩, fun b hb => ?_, q⟩
    have e' : b = s1.heap.objs.size + 1 ∨ b = s1.heap.objs.size := by simpa using hb
    have hle : s1.heap.objs.size ≤ b := by
      rcases e' with z | z
      · rw [z]; exact Nat.le_add_right _ _
      · rw [z]; exact Nat.le_refl _
    exact I1.fpOk hle (I1.hok.fresh hle)
end Ver
namespace Ver
open PySem PySem.Spec PyProof.Rows L2
theorem dc_enumT {K : PySem.W.Frag} {a : Addr} {xs : List V} {g : TG} {tt : TT} {tk tv : TE} {vs : List Nat} {σ : L2.St} {H1 : Hp} {D : Addr} {Qd : Hp → Prop} (Pv : Nat → Hp → Prop) (h0 : Pv 0 (upd H1 D (.dK []))) (hl : ∀ i H, i ≤ xs.length → Pv i H → SqT K H a xs)
    (hs : ∀ i x H T, xs[i]? = some x → Pv i H → H T = none → g (.ref T) (wipe σ vs) (upd H T (.tup [.int (i : Nat), x])) fun σ2 H2 => wipe σ2 vs = wipe σ vs ∧ tt σ2 H2 fun b H3 =>
      if b = true then tk σ2 H3 fun y H4 => tv σ2 H4 fun z H5 => ∃ kvs k, y = kV k ∧ H5 D = some (.dK kvs) ∧ kvs.length < sizeLine ∧ Pv (i + 1) (upd H5 D (.dK (putK kvs k z))) else Pv (i + 1) H3) (hd : ∀ H, Pv xs.length H → Qd H) :
    ∃ W : Nat → Nat → Hp → Prop, (∃ m, W 0 m (upd H1 D (.dK []))) ∧ ∀ i m H, W i m H →
      ((Itet K a).stop i H ∧ Qd H) ∨ ((Itet K a).go i H ∧ ∃ Nx : Hp → Prop, (∀ H', Nx H' → ∃ m', m' < m ∧ W (i + 1) m' H') ∧ ∀ x H', (Itet K a).yld i H x H' → g x (wipe σ vs) H' fun σ2 H2 => wipe σ2 vs = wipe σ vs ∧ tt σ2 H2 fun b H3 =>
        if b = true then tk σ2 H3 fun y H4 => tv σ2 H4 fun z H5 => ∃ kvs k, y = kV k ∧ H5 D = some (.dK kvs) ∧ kvs.length < sizeLine ∧ Nx (upd H5 D (.dK (putK kvs k z))) else Nx H3) := by
  refine ⟨fun i m H => m = xs.length - i ∧ i ≤ xs.length ∧ Pv i H, ⟨xs.length, by simp, Nat.zero_le _, h0⟩, ?_⟩
  rintro i m H ⟨rfl, hi, p⟩
  have q := hl i H hi p
  by_cases hlt : i < xs.length
  · refine .inr ⟨⟨xs, xs[i], q, by simp [hlt]⟩, Pv (i + 1), fun H' p' => ⟨xs.length - (i + 1), by omega, rfl, hlt, p'⟩, fun v H' y => ?_⟩
    obtain ⟨T, x, rfl, nT, rfl, f⟩ := y
    exact hs i x H T (f xs q) p nT
  · have e : i = xs.length := by omega
    subst e
    exact .inl ⟨⟨xs, q, Nat.le_refl _⟩, hd H p⟩
theorem pg_tupK {X : Cx} {K : PySem.W.Frag} {es : List Expr} {k : Nat} {pos : Pos} {t : TGs} {n : Nat} (hK : X.K = K) (hc : X.calm = true) (hn : (assignEach es X.env).length = n) (hst : (assignEach es X.env).findIdx? (·.1) = none) (h : PGs X es t) : PG X (.Tuple es k pos) (gTup K n t) := by
  subst hK
  exact pg_tup hc h hn hst
def rTupK (K : PySem.W.Frag) : List V → Hp → VK → Prop := fun xs H Q => ∃ p ys, xs = [V.ref p] ∧ ((SqL K H p ys ∧ ∀ l, H l = none → Q (.ref l) (upd H l (.tup ys))) ∨ (SqT K H p ys ∧ Q (.ref p) H))
theorem call_tupK {X : Cx} {K : PySem.W.Frag} (h : X.K = K) : CallR X (.type "tuple") (rTupK K) := by
  subst h
  exact call_tuple_of
theorem yes_on {σ : L2.St} {H : Hp} {A B : Hp → Prop} (h : A H) : tYes σ H fun b H3 => if b = true then A H3 else B H3 := by
  show (if true = true then A H else B H)
  rw [if_pos rfl]
  exact h
end Ver
set_option Elab.async false
set_option linter.all false
set_option maxRecDepth 100000
set_option maxHeartbeats 2000000
namespace Ver
open PySem PySem.Spec PyProof.Rows L2
def repC (c n : Nat) : Str := ⟨(List.replicate n c).toArray⟩
theorem repC_len (c n : Nat) : (repC c n).length = n := by
  show (List.replicate n c).toArray.size = n
  rw [List.size_toArray, List.length_replicate]
theorem repC_mem {c n d : Nat} (h : d ∈ (repC c n).cps.toList) : d = c := List.eq_of_mem_replicate h
theorem fold_rep (c : Nat) : ∀ (n : Nat) (acc : Array Nat), ((List.replicate n (#[c] : Array Nat)).foldl (· ++ ·) acc).toList = acc.toList ++ List.replicate n c
  | 0, acc => by simp
  | n + 1, acc => by
    rw [List.replicate_succ, List.foldl_cons, fold_rep c n, List.replicate_succ, Array.toList_append, List.append_assoc]
    rfl
theorem mul_repC {c n : Nat} (h : 2 ≤ n) : Txt.mul ⟨#[c]⟩ (n : Int) = repC c n := by
  unfold Txt.mul
  have h1 : ¬ (n : Int) < 1 := by omega
  have h2 : ¬ (((n : Int) == 1 || (⟨#[c]⟩ : Str).length == 0) = true) := by
    have e1 : ((n : Int) == 1) = false := beq_eq_false_iff_ne.mpr (by omega)
    have e2 : ((⟨#[c]⟩ : Str).length == 0) = false := rfl
    rw [e1, e2]
    exact fun z => Bool.noConfusion z
  rw [if_neg h1, if_neg h2, Int.toNat_natCast]
  refine TL.ext_tl ?_
  show ((List.replicate n (#[c] : Array Nat)).foldl (· ++ ·) #[]).toList = List.replicate n c
  rw [fold_rep]
  rfl
theorem op_repC {X : Cx} : OpR X (binaryOp .Mult) (fun x y H Q => ∃ c n : Nat, x = .str ⟨#[c]⟩ ∧ y = .int (n : Int) ∧ 2 ≤ n ∧ n ≤ 100000 ∧ Q (.str (repC c n)) H) := by
  intro pins s σ H x y v u Q I rx ry h
  obtain ⟨c, n, rfl, rfl, h0, h1, q⟩ := h
  obtain ⟨t, rfl⟩ := rx
  obtain ⟨t', rfl⟩ := ry
  refine SB.mul ⟨?_, fun _ _ => ?_, fun _ _ => ?_⟩ fun t2 k => ?_
  · rw [decide_eq_false (by omega), decide_eq_false (by omega)]; rfl
  · have e : ((⟨#[c]⟩ : Str).length : Int) = 1 := rfl
    rw [e]
    have : (1 : Int) ≤ (2 ^ 63 - 1) / (n : Int) := Int.le_ediv_of_mul_le (by omega) (by omega)
    omega
  · have e : (⟨#[c]⟩ : Str).length * (n : Int).toNat = n := by
      rw [Int.toNat_natCast]
      exact Nat.one_mul n
    rw [e]
    have hs := small (n := n) h1
    unfold Builtin.Str.tooLong
    exact decide_eq_false (by omega)
  · rw [mul_repC h0]
    exact ⟨.str (repC c n), H, I.tok _, ⟨_, rfl⟩, q⟩
end Ver
set_option Elab.async false
set_option linter.all false
set_option maxRecDepth 100000
set_option maxHeartbeats 2000000
namespace Ver
open PySem PySem.Spec PyProof.Rows L2
def TxS (P : Program) (w : World) (a : Addr) (l : List Str) (h : Heap) : Prop :=
  ∃ D : Froz.SD, h.get? a = some (Froz.sObj "set" D) ∧ Froz.TxOk P w D l ∧ l.Nodup ∧ l.length < scanBound ∧ Ris D.2.2.place.toList ∧ (w.params.followText "set-order" = true ∨ D.2.2.led = true)
def TxO (P : Program) (w : World) (a : Addr) (l : List Str) : HO := .ext (TxS P w a l)
theorem txO_ok {P : Program} {w : World} {H : Hp} {h : Heap} {a : Addr} {l : List Str} (x : TxS P w a l h) : ObjOk P w H h a (TxO P w a l) := by
  have ⟨D, ho, _⟩ := x
  exact ⟨x, ⟨_, ho⟩, fun h1 h2 ⟨D, ho, r⟩ k => ⟨D, k _ ho, r⟩⟩
theorem off_place (t : SetTable) : (if t.plain = true then { t with plain := false } else t).place = t.place := by split <;> rfl
theorem off_led (t : SetTable) : (if t.plain = true then { t with plain := false } else t).led = t.led := by split <;> rfl
theorem tail_ris {ep : Nat} {es : Array (Int × Value)} {t : SetTable} {b : Bool} (r : Ris t.place.toList) : Ris (Froz.tailTx ep es t b).2.2.place.toList := by
  unfold Froz.tailTx
  split
  · exact relayAll_ris t es _
  · exact r
theorem tail_led {ep : Nat} {es : Array (Int × Value)} {t : SetTable} {b : Bool} : (Froz.tailTx ep es t b).2.2.led = t.led := by
  unfold Froz.tailTx
  split
  · exact relayAll_led t es _
  · rfl
theorem add_ris {D : Froz.SD} {h : Int} {v : Value} (r : Ris D.2.2.place.toList) : Ris (Froz.addTx h v D).2.2.place.toList :=
  tail_ris (by rw [off_place]; exact layNew_ris _ _ _ _ r)
theorem add_led {D : Froz.SD} {h : Int} {v : Value} : (Froz.addTx h v D).2.2.led = D.2.2.led :=
  tail_led.trans ((off_led _).trans (layNew_led _ _ _ _))
section
variable {P : Program} {w : World} {A : Around} {E : Value → Shared → Prop} {s : Shared} {a : Addr} {l : List Str} {k : Str} {u : Tok}
theorem add_again {D : Froz.SD} {Q : Bool → Shared → Prop} (ho : s.heap.get? a = some (Froz.sObj "set" D)) (F : Froz.TxOk P w D l) (hk : k ∈ l) (hb : l.length < scanBound) (h : Q false s) :
    wpAny (model P w) A (setAddHashed a (.str k u) (hashStr w k)) Q E s := by
  obtain ⟨es, ep, t⟩ := D
  have dat : (Froz.sObj "set" (es, ep, t)).data = .set es ep t := rfl
  have sz : es.size < scanBound := by have z : es.size = l.length := F.sz; omega
  have key : (strKind P w).is k (.str k u) = true := Froz.is_str k u
  have fit : t.fits es.size = true := F.fit
  have el : ElemsOf (strKind P w) es.toList := F.el
  unfold setAddHashed setAddHashedIn
  refine wpAny_holding (wpAny_bind (wpAny_setState_of ho dat fit ?_))
  dsimp only
  rw [byScan_of rfl sz el]
  simp only [↓reduceIte]
  unfold setAddByScan
  refine wpAny_bind (wpAny_bind (wpAny_rule (wpAny_bind (wpAny_setScan_of (knd := strKind P w) (k := k) key ho dat fit el ?_))))
  cases found : List.findIdx? (fun e => (strKind P w).is k e.2) es.toList with
  | none =>
    obtain ⟨e, he, z⟩ := (F.mem k).mp hk
    rw [List.findIdx?_eq_none_iff.mp found e he] at z
    cases z
  | some j =>
    dsimp only
    exact wpAny_pure (wpAny_pure h)
theorem set_add_text {Q : Value → Shared → Prop} (x : TxS P w a l s.heap) (room : l.length + 1 < scanBound)
    (h : ∀ h', Heap.SameBut a s.heap h' → TxS P w a (if k ∈ l then l else k :: l) h' → Q .none { s with heap := h', toks := s.toks + 1 }) :
    wpAny (model P w) A (call (.builtin "set.add") [.ref a, .str k u]) Q E s := by
  obtain ⟨D, ho, tx, nd, lb, ris, led⟩ := x
  refine wpAny_call_entry F.slot_set_add ⟨_, ho, rfl⟩ F.entry_set_add ?_ (F.args_set_add_2 _ _)
  unfold Builtin.«set.add» Builtin.Frozenset.oneOther
  simp only [List.isEmpty_nil, bind_assoc]
  unfold Builtin.Frozenset.addrOf setAdd
  refine wpAny_bind (wpAny_pure ?_)
  try dsimp only
  refine wpAny_bind (wpAny_pure ?_)
  try dsimp only
  refine wpAny_bind (wpAny_holding (wpAny_bind ((strKind P w).pyHash (Froz.is_str k u) ?_)))
  show wpAny (model P w) _ (setAddHashed a (.str k u) (hashStr w k)) _ _ { s with toks := s.toks + 1 }
  by_cases c : k ∈ l
  · refine add_again (s := { s with toks := s.toks + 1 }) ho tx c lb ?_
    show wpAny _ _ (ret Value.none) _ _ _
    refine wpAny_pure ⟨_, rfl, h s.heap (Heap.SameBut.refl a s.heap) ?_⟩
    rw [if_pos c]
    exact ⟨D, ho, tx, nd, lb, ris, led⟩
  · refine Froz.add_x (s := { s with toks := s.toks + 1 }) ho tx c room ?_
    show wpAny _ _ (ret Value.none) _ _ _
    refine wpAny_pure ⟨_, rfl, h _ (Heap.SameBut.update s.heap a _) ?_⟩
    rw [if_neg c]
    exact ⟨_, Froz.get_upd _ ho rfl, Froz.add_ok u tx, List.nodup_cons.mpr ⟨c, nd⟩, room, add_ris ris, led.imp id fun z => add_led.trans z⟩
end
section
variable {X : Cx} {pins : List (Addr × Obj)} {σ : L2.St} {H : Hp} {s : Shared} {E : Value → Shared → Prop} {D : Addr} {l : List Str}
theorem txO_get (I : Inv X pins σ H s) (h : H D = some (TxO X.prog X.w D l)) : TxS X.prog X.w D l s.heap := (I.hok D _ h).1
theorem txO_add {k : Str} {v : Value} {Q : Value → Shared → Prop} (I : Inv X pins σ H s) (hD : H D = some (TxO X.prog X.w D l)) (room : l.length + 1 < scanBound) (rv : RelV (.str k) v)
    (h : ∀ s', Inv X pins σ (upd H D (TxO X.prog X.w D (if k ∈ l then l else k :: l))) s' → Q .none s') : wpAny (model X.prog X.w) X.A (call (.builtin "set.add") [.ref D, v]) Q E s := by
  obtain ⟨u, rfl⟩ := rv
  refine set_add_text (txO_get I hD) room fun h' sb new => ?_
  have there : ∃ o, h'.get? D = some o := by
    have ⟨_, ho, _⟩ := new
    exact ⟨_, ho⟩
  exact h _ (I.write (e := D) (t' := s.toks + 1) (by rw [hD]; trivial) (.inl rfl) (fun b o hb e => (sb.2 b hb).trans e) there (txO_ok new))
theorem txS_fresh {h : Heap} (P : Program) (w : World) : TxS P w h.objs.size [] (h.push { cls := .type "set", dict := none, data := .set #[] 0 (.fresh 0 0 (!w.params.followText "set-order")) }) :=
  ⟨(#[], 0, .fresh 0 0 (!w.params.followText "set-order")), Heap.get?_push_size _ rfl, Froz.TxOk.nil rfl, List.nodup_nil, by decide, List.Pairwise.nil, by
    show _ ∨ (!w.params.followText "set-order") = true
    cases w.params.followText "set-order"
    · exact .inr rfl
    · exact .inl rfl⟩
end
end Ver
set_option Elab.async false
set_option linter.all false
set_option maxRecDepth 100000
set_option maxHeartbeats 4000000
namespace Ver
open PySem PySem.Spec PyProof.Rows L2
def leS (a b : Str) : Prop := ¬ b.cps.toList < a.cps.toList
def ltSv (v u : Value) : Bool := decide ((strOf v).cps.toList < (strOf u).cps.toList)
theorem swo_str : SrtO.Swo ltSv := by
  refine ⟨fun x y h => ?_, fun x y z h1 h2 => ?_⟩
  · exact decide_eq_false (List.lt_asymm (of_decide_eq_true h))
  · have a := of_decide_eq_false (p := (strOf y).cps.toList < (strOf x).cps.toList) h1
    have b := of_decide_eq_false (p := (strOf z).cps.toList < (strOf y).cps.toList) h2
    exact decide_eq_false (List.not_lt.mpr (List.le_trans (List.not_lt.mp a) (List.not_lt.mp b)))
section
variable {prog : Program} {w : World} {A : Around} {E : Value → Shared → Prop} {s : Shared}
theorem str_cmp {vs : List Value} {ss : List Str} (hS : StrsAre vs ss) : SrtO.Cmp prog w A s oneType' (fun p => p.1 ∈ vs) (SrtO.lt2 ltSv) := by
  intro p q hp hq
  obtain ⟨a, t, e⟩ := hS.all _ hp
  obtain ⟨b, u, e'⟩ := hS.all _ hq
  show wpAny (model prog w) A (keyLt' oneType' p.1 q.1) (fun r s' => s' = s ∧ r = ltSv p.1 q.1) (fun _ _ => False) s
  rw [e, e', keyLt'_oneType]
  exact oneLt_str ⟨rfl, rfl⟩
theorem strs_sortable {a : Addr} {vs : List Value} {ss : List Str} (hS : StrsAre vs ss) (h2 : 2 ≤ vs.length) : SrtO.SortableO prog w A s a vs ltSv := by
  intro h' _
  refine ⟨oneType', fun Q E hq => ?_, str_cmp hS⟩
  match vs, hS, h2 with
  | v1 :: v2 :: rest, hS, _ =>
    rw [keyKind_strs hS]
    exact wpAny_pure hq
  | [], _, h => exact absurd h (by decide)
  | [v], _, h => exact absurd h (by simp)
end
theorem strs_out {vs out : List Value} {ss : List Str} (hS : StrsAre vs ss) (h1 : SrtO.Srtd ltSv out) (h2 : SrtO.Stb ltSv out vs) : StrsAre out (out.map strOf) ∧ (out.map strOf).Perm ss ∧ (out.map strOf).Pairwise leS := by
  refine ⟨strsAre_map out fun v hv => hS.all v (h2.perm.mem_iff.mp hv), ?_, ?_⟩
  · have q := h2.perm.map strOf
    rw [hS.strs] at q
    exact q
  · exact List.pairwise_map.mpr (h1.imp fun {x y} h => of_decide_eq_false (p := (strOf y).cps.toList < (strOf x).cps.toList) h)
theorem strs_of_vals : ∀ {xs : List Str} {us : List Value}, Vals (xs.map V.str) us → StrsAre us xs
  | [], _, h => by cases h; exact .nil
  | x :: xs, _, h => by
    cases h with
    | cons h1 h2 =>
      obtain ⟨t, rfl⟩ := h1
      exact .cons x t (strs_of_vals h2)
theorem vals_of_strs2 : ∀ {xs : List Str} {us : List Value}, StrsAre us xs → Vals (xs.map V.str) us
  | _, _, .nil => .nil
  | _, _, .cons x t h => .cons ⟨t, rfl⟩ (vals_of_strs2 h)
theorem perm_of_sub {α : Type} [DecidableEq α] : ∀ {l m : List α}, l.Nodup → (∀ x ∈ l, x ∈ m) → m.length ≤ l.length → l.Perm m
  | [], m, _, _, h => by
    have : m = [] := List.eq_nil_of_length_eq_zero (Nat.le_zero.mp h)
    rw [this]
  | x :: l, m, nd, sub, h => by
    have hx := sub x List.mem_cons_self
    have p := List.perm_cons_erase hx
    obtain ⟨n1, n2⟩ := List.nodup_cons.mp nd
    refine (List.Perm.cons x (perm_of_sub n2 (fun y hy => ?_) ?_)).trans p.symm
    · exact (List.mem_erase_of_ne (fun e => n1 (by rw [← e]; exact hy))).mpr (sub y (List.mem_cons_of_mem _ hy))
    · rw [List.length_erase_of_mem hx]
      rw [List.length_cons] at h
      omega
theorem str_shape {P : Program} {w : World} {k : Str} {v : Value} (h : (strKind P w).is k v = true) : ∃ u, v = .str k u := by
  have h' : Value.isStrOf k v = true := h
  cases v with
  | str x u =>
    have e : x = k := by simpa [Value.isStrOf] using h'
    exact ⟨u, by rw [e]⟩
  | _ => exact absurd h' (by simp [Value.isStrOf])
def rSortS (K : PySem.W.Frag) : List V → Hp → VK → Prop := fun vs H Q => ∃ (a : Addr) (xs : List Str), vs = [V.ref a] ∧ SqL K H a (xs.map V.str) ∧ ∀ (ys : List Str) (p : Addr), ys.Perm xs → ys.Pairwise leS → H p = none → Q (.ref p) (upd H p (.lst (ys.map V.str)))
def rSortTx (P : Program) (w : World) : List V → Hp → VK → Prop := fun vs H Q => ∃ (a : Addr) (l : List Str), vs = [V.ref a] ∧ H a = some (TxO P w a l) ∧ ∀ (ys : List Str) (p : Addr), ys.Perm l → ys.Pairwise leS → H p = none → Q (.ref p) (upd H p (.lst (ys.map V.str)))
section
variable {X : Cx}
theorem cr_sortS : CallR X (.builtin "sorted") (rSortS X.K) := by
  intro pins s σ H vs us Q I r h
  obtain ⟨a, xs, rfl, hs, q⟩ := h
  obtain ⟨its, rv, hl, hz⟩ := I.list hs
  rw [Vals.ref1 r]
  have hi := strs_of_vals rv
  refine SrtO.sorted_ord swo_str hl.isList (by rw [← rv.length]; exact hz) (fun h2 _ _ _ _ => strs_sortable hi h2) fun out h1 h2 => ?_
  obtain ⟨k1, k2, k3⟩ := strs_out hi h1 h2
  obtain ⟨ep, he⟩ := PyProof.Rows.sortedAll_at s.heap its out.toArray
  have hlen : ((out.map strOf).map V.str).length ≤ sizeLine := by
    rw [List.length_map, k2.length_eq]
    rw [List.length_map] at hz
    exact hz
  exact ⟨.ref _, upd H (s.heap.objs.size + 1) (.lst ((out.map strOf).map V.str)), I.laid (t' := s.toks) (fun _ _ => PyProof.Rows.sortedAll_old) (Nat.le_succ _) ⟨hlen, out, ep, vals_of_strs2 k1, he⟩, rfl, q _ _ k2 k3 (I.hok.fresh (Nat.le_succ _))⟩
theorem cr_sortTx (hc : X.calm = true) : CallR X (.builtin "sorted") (rSortTx X.prog X.w) := by
  intro pins s σ H vs us Q I r h
  obtain ⟨a, l, rfl, ha, q⟩ := h
  obtain ⟨⟨es, ep, t⟩, ho, tx, nd, lb, ris, led⟩ := txO_get I ha
  rw [Vals.ref1 r]
  have sz : es.size = l.length := tx.sz
  refine Calls.call_function_entry kind_sorted plain_sorted entry_sorted (args_sorted1 _) ?_
  unfold Builtin.«sorted»
  refine wpAny_bind (m := checkCount "sorted" 1 1 _) (wpAny_pure ?_)
  refine wpAny_bind (collect_set (A := X.A.in1) (I.ok.hd hc) ⟨_, ho, rfl, rfl⟩ tx.fit (by rw [sz]; exact lb) ris led fun s1 vs k1 hz g1 o1 pm => ?_)
  have len : vs.length = l.length := by rw [pm.length_eq, List.length_map, Array.length_toList, sz]
  have shape : ∀ v ∈ vs, ∃ x u, v = .str x u := fun v hv => by
    obtain ⟨e, he, q⟩ := List.mem_map.mp (pm.mem_iff.mp hv)
    obtain ⟨⟨k, h1, _⟩, _⟩ := tx.el e he
    obtain ⟨u, h2⟩ := str_shape h1
    exact ⟨k, u, q.symm.trans h2⟩
  have hS : StrsAre vs (vs.map strOf) := strsAre_map vs shape
  have same : (vs.map strOf).Perm l := (perm_of_sub nd (fun k hk => by
    obtain ⟨e, he, z⟩ := (tx.mem k).mp hk
    obtain ⟨u, h2⟩ := str_shape z
    exact List.mem_map.mpr ⟨e.2, pm.mem_iff.mpr (List.mem_map.mpr ⟨e, he, rfl⟩), by rw [h2]; rfl⟩) (by rw [List.length_map, len]; exact Nat.le_refl _)).symm
  have most : vs.length ≤ sizeLine := by
    rw [len, sizeLine_eq]
    have : scanBound ≤ 16777216 := by decide
    omega
  refine wpAny_bind (wpAny_newList ?_ most)
  have hoL : (s1.heap.push (seqObj "list" vs.toArray 0)).get? s1.heap.objs.size = some (seqObj "list" vs.toArray 0) := Heap.get?_push_size _ rfl
  refine wpAny_bind (wpAny_holding (wpAny_call_entry slot_list_sort ⟨_, hoL, rfl⟩ entry_list_sort (SrtO.list_sort_ord swo_str hoL most (fun h2 => strs_sortable hS h2) fun out h1 h2 => ⟨_, rfl, ?_⟩) (args_list_sort _)))
  obtain ⟨j1, j2, j3⟩ := strs_out hS h1 h2
  obtain ⟨c, hc2⟩ := sortedHeap_at (vs := vs) (out := out.toArray) hoL
  have hn : H s1.heap.objs.size = none := I.hok.fresh hz
  have hlen : ((out.map strOf).map V.str).length ≤ sizeLine := by
    rw [List.length_map, j2.length_eq, List.length_map]
    exact most
  have kept : ∀ b o, s.heap.get? b = some o → (sortedHeap (s1.heap.push (seqObj "list" vs.toArray 0)) s1.heap.objs.size vs out.toArray).get? b = some o := fun b o e => by
    have e1 := k1 b o e
    have lt := Heap.lt_size e1
    rw [sortedHeap_old (Nat.ne_of_lt lt) (by rw [size_push']; exact Nat.lt_succ_of_lt lt)]
    exact Heap.get?_push_of_some _ e1
  refine wpAny_pure ⟨_, rfl, ?_⟩
  refine ⟨.ref s1.heap.objs.size, upd H s1.heap.objs.size (.lst ((out.map strOf).map V.str)), ?_, rfl, q _ _ (j2.trans same) j3 hn⟩
  generalize sortedHeap (s1.heap.push (seqObj "list" vs.toArray 0)) s1.heap.objs.size vs out.toArray = h' at hc2 kept ⊢
  have e : ({ s1 with heap := h' } : Shared) = { s with heap := h', gens := s1.gens, drawn := s1.drawn, toks := s1.toks } := by
    cases s1
    cases s
    cases o1
    rfl
  rw [e]
  have ob : ObjOk X.prog X.w (upd H s1.heap.objs.size (.lst ((out.map strOf).map V.str))) h' s1.heap.objs.size (.lst ((out.map strOf).map V.str)) := ⟨hlen, out, c, vals_of_strs2 j1, hc2⟩
  exact I.call (ch := []) (Un.laid kept hz hn) (I.hok.laid kept hz ob) (by rw [g1]; exact I.bare) (fun _ z => nomatch z)
end
end Ver
set_option Elab.async false
set_option linter.all false
set_option maxRecDepth 100000
set_option maxHeartbeats 2000000
namespace Ver
open PySem PySem.Spec PyProof.Rows L2
abbrev twoSets (elt t0 i0 t1 i1 : Expr) (scope : Scope) (pos : Pos) : Expr := .SetComp elt [⟨t0, i0, [], 0⟩, ⟨t1, i1, [], 0⟩] scope pos
section
variable {prog : Program} {w : World} {A : Around} {R : Result → Shared → Prop} {s : Shared} {elt t0 i0 t1 i1 : Expr} {scope : Scope} {pos : Pos} {it acc : Value} {env : Env}
theorem turn_outer : compTurn (twoSets elt t0 i0 t1 i1 scope pos) 0 it acc env = (do
      standAt i0.pos
      match ← pyNext it with
      | none => pure (.done .next)
      | some v =>
        letOwnedTupleGo t0 it v
        assign t0 env v
        let x ← eval i1 env
        standAt i1.pos
        let x ← foldedSetIterable i1 env x
        let _ ← runOwn (.compStart (twoSets elt t0 i0 t1 i1 scope pos) 1 (← holding [x] (pyIter x)) acc env) env
        again (.compLoop (twoSets elt t0 i0 t1 i1 scope pos) 0 it acc env)) := by rfl
theorem turn_inner : compTurn (twoSets elt t0 i0 t1 i1 scope pos) 1 it acc env = (do
      standAt i1.pos
      match ← pyNext it with
      | none => pure (.done .next)
      | some v =>
        letOwnedTupleGo t1 it v
        assign t1 env v
        (do let x ← eval elt env; standAt elt.pos; let _ ← call (.builtin "set.add") [acc, x])
        again (.compLoop (twoSets elt t0 i0 t1 i1 scope pos) 1 it acc env)) := by rfl
abbrev NB (prog : Program) (w : World) (A : Around) (env : Env) (R : Result → Shared → Prop) : Value → Shared → Prop := notedBy (model prog w) A env fun e s' => R (.error e) s'
theorem loop_outer (flat : ∀ x, foldedSetIterable i1 env x = pure x) (I : Nat → Shared → Prop)
    (turn : ∀ n s, I n s → wpAny (model prog w) A (pyNext it) (fun r s1 => match r with
      | none => R (.ok .next) s1
      | some v => wpAny (model prog w) A (letOwnedTupleGo t0 it v) (fun _ s2 => wpAny (model prog w) A (assign t0 env v) (fun _ s3 => wpAny (model prog w) A (eval i1 env) (fun x s4 => wpAny (model prog w) A (pyIter x) (fun it1 s5 =>
          codeAny (model prog w) A (.compStart (twoSets elt t0 i0 t1 i1 scope pos) 1 it1 acc env) (fun r s' => match r with
            | .ok _ => ∃ m, m < n ∧ I m s'
            | .error _ => False) s5) (NB prog w A env R) s4) (NB prog w A env R) s3) (NB prog w A env R) s2) (NB prog w A env R) s1) (NB prog w A env R) s)
    (n : Nat) (start : I n s) : codeAny (model prog w) A (.compLoop (twoSets elt t0 i0 t1 i1 scope pos) 0 it acc env) R s := by
  refine codeAny_loop rfl I (fun n s here => ?_) n start
  show wpAny _ A ((compTurn (twoSets elt t0 i0 t1 i1 scope pos) 0 it acc env).onRaise (fun x => do noteFrame x env; theTreesLotGoes x)) _ _ s
  refine wpAny_noted ?_
  rw [turn_outer]
  refine wpAny_bind (wpAny_standAt (wpAny_bind (wpAny_mono (turn n s here) (fun r s1 q => ?_) fun _ _ z => z)))
  cases r with
  | none => exact wpAny_pure q
  | some v =>
    refine wpAny_bind (wpAny_mono q (fun _ s2 q => wpAny_bind (wpAny_mono q (fun _ s3 q => ?_) fun _ _ z => z)) fun _ _ z => z)
    refine wpAny_bind (wpAny_mono q (fun x s4 q => ?_) fun _ _ z => z)
    refine wpAny_bind (wpAny_standAt (wpAny_bind (wpAny_of_eq (flat x) (wpAny_bind (wpAny_holding (wpAny_mono q (fun it1 s5 q => ?_) fun _ _ z => z))))))
    refine wpAny_bind (wpAny_runOwn ?_)
    rw [Around.mark_none]
    refine codeAny_mono q fun r s' q => ?_
    cases r with
    | ok f =>
      first
        | exact wpAny_pure ⟨rfl, q⟩
        | exact wpAny_bind (wpAny_pure (wpAny_pure ⟨rfl, q⟩))
    | error e => exact q.elim
theorem loop_inner (I : Nat → Shared → Prop)
    (turn : ∀ n s, I n s → wpAny (model prog w) A (pyNext it) (fun r s1 => match r with
      | none => R (.ok .next) s1
      | some v => wpAny (model prog w) A (letOwnedTupleGo t1 it v) (fun _ s2 => wpAny (model prog w) A (assign t1 env v) (fun _ s3 => wpAny (model prog w) A (eval elt env) (fun x s4 =>
          wpAny (model prog w) A (call (.builtin "set.add") [acc, x]) (fun _ s5 => ∃ m, m < n ∧ I m s5) (NB prog w A env R) s4) (NB prog w A env R) s3) (NB prog w A env R) s2) (NB prog w A env R) s1) (NB prog w A env R) s)
    (n : Nat) (start : I n s) : codeAny (model prog w) A (.compLoop (twoSets elt t0 i0 t1 i1 scope pos) 1 it acc env) R s := by
  refine codeAny_loop rfl I (fun n s here => ?_) n start
  show wpAny _ A ((compTurn (twoSets elt t0 i0 t1 i1 scope pos) 1 it acc env).onRaise (fun x => do noteFrame x env; theTreesLotGoes x)) _ _ s
  refine wpAny_noted ?_
  rw [turn_inner]
  refine wpAny_bind (wpAny_standAt (wpAny_bind (wpAny_mono (turn n s here) (fun r s1 q => ?_) fun _ _ z => z)))
  cases r with
  | none => exact wpAny_pure q
  | some v =>
    refine wpAny_bind (wpAny_mono q (fun _ s2 q => wpAny_bind (wpAny_mono q (fun _ s3 q => ?_) fun _ _ z => z)) fun _ _ z => z)
    first
      | exact wpAny_bind (wpAny_bind (wpAny_mono q (fun x s4 q => wpAny_bind (wpAny_standAt (wpAny_bind (wpAny_mono q (fun _ s5 q => wpAny_pure (wpAny_pure ⟨rfl, q⟩)) fun _ _ z => z)))) fun _ _ z => z))
      | exact wpAny_bind (wpAny_mono q (fun x s4 q => wpAny_bind (wpAny_standAt (wpAny_bind (wpAny_mono q (fun _ s5 q => wpAny_pure ⟨rfl, q⟩) fun _ _ z => z)))) fun _ _ z => z)
theorem start_inner (h0 : codeAny (model prog w) A (.compLoop (twoSets elt t0 i0 t1 i1 scope pos) 1 it acc env) R s)
    (h : wpAny (model prog w) A (pyIter it) (fun it' s' => codeAny (model prog w) A (.compLoop (twoSets elt t0 i0 t1 i1 scope pos) 1 it' acc env) R s') (NB prog w A env R) s) :
    codeAny (model prog w) A (.compStart (twoSets elt t0 i0 t1 i1 scope pos) 1 it acc env) R s := by
  refine codeAny_of_tree ?_
  show wpAny _ _ ((compStart (twoSets elt t0 i0 t1 i1 scope pos) 1 it acc env).onRaise (fun x => do noteFrame x env; standAt theWindowsPlace)) _ _ s
  refine wpAny_notedAt ?_
  unfold compStart
  show wpAny _ _ (ask >>= _) _ _ s
  refine wpAny_bind (wpAny_askSetting (wpAny_ite ?_))
  split
  · first
      | exact wpAny_bind (wpAny_pure (wpAny_pure ⟨rfl, h0⟩))
      | exact wpAny_pure ⟨rfl, h0⟩
  · refine wpAny_bind (wpAny_rule ?_)
    first
      | exact wpAny_bind (wpAny_standAt (wpAny_bind (wpAny_mono h (fun it' s' q => wpAny_pure ⟨rfl, q⟩) fun _ _ z => z)))
      | (show wpAny _ _ (standAt i1.pos >>= _) _ _ s
         exact wpAny_bind (wpAny_standAt (wpAny_bind (wpAny_mono h (fun it' s' q => wpAny_pure ⟨rfl, q⟩) fun _ _ z => z))))
end
section
variable {X : Cx}
def AddT (P : Program) (w : World) (H : Hp) (D : Addr) (y : V) (Nx : Hp → Prop) : Prop :=
  ∃ (k : Str) (l : List Str), y = .str k ∧ H D = some (TxO P w D l) ∧ l.length + 1 < scanBound ∧ Nx (upd H D (TxO P w D (if k ∈ l then l else k :: l)))
def tSc2 (P : Program) (w : World) (wi : TI) (g : TG) (wi1 : TI) (g1 : TG) (te : TE) (vs vs1 : List Nat) : TE := fun σ H Q => wi σ H fun J H1 => ∀ D, H1 D = none →
  ∃ W : Nat → Nat → Hp → Prop, (∃ m, W 0 m (upd H1 D (TxO P w D []))) ∧ ∀ i m H, W i m H →
    (J.stop i H ∧ Q (.ref D) H) ∨
    (J.go i H ∧ ∃ Nx : Hp → Prop, (∀ H', Nx H' → ∃ m', m' < m ∧ W (i + 1) m' H') ∧
      ∀ x H', J.yld i H x H' → g x (wipe σ vs) H' fun σ2 H2 => wipe σ2 vs = wipe σ vs ∧ wi1 σ2 H2 fun J1 H3 =>
        ∃ W1 : Nat → Nat → Hp → Prop, (∃ m, W1 0 m H3) ∧ ∀ j k H, W1 j k H →
          (J1.stop j H ∧ Nx H) ∨
          (J1.go j H ∧ ∃ Nx1 : Hp → Prop, (∀ H', Nx1 H' → ∃ k', k' < k ∧ W1 (j + 1) k' H') ∧
            ∀ x H', J1.yld j H x H' → g1 x (wipe σ2 vs1) H' fun σ3 H4 => wipe σ3 vs1 = wipe σ2 vs1 ∧ te σ3 H4 fun y H5 => AddT P w H5 D y Nx1))
variable {elt tg iter tg1 iter1 : Expr} {scope : Scope} {own : List (Str × Nat)} {vs1 : List Nat} {pos : Pos} {wi wi1 : TI} {g g1 : TG} {te : TE}
abbrev blkE (X : Cx) (scope : Scope) (cl : List (Str × Addr)) (C : Addr) : Env := compEnvC scope cl C X.env
theorem sc2_core {pins : List (Addr × Obj)} {s : Shared} {σ : L2.St} {H : Hp} {Q : VK} {use : Option (Value → Sem Unit)} {Qf : Value → Shared → Prop} {pos' : Pos} (hc : X.calm = true) (hN : X.N.Nodup) (I : Inv X pins σ H s) (hi : PI X tg iter wi) (ok : BlkOk X.N X.env.scope scope own) (hv : ∀ i ∈ vs1, i ∈ own.map (·.2))
    (hg : ∀ (s : Shared) (H : Hp) (C : Addr) (cl : List (Str × Addr)) (fp : List Addr), PG (X.blk s H scope (blkE X scope cl C) fp) tg g)
    (hi1 : ∀ (s : Shared) (H : Hp) (C : Addr) (cl : List (Str × Addr)) (fp : List Addr), PI (X.blk s H scope (blkE X scope cl C) fp) tg1 iter1 wi1)
    (hg1 : ∀ (s : Shared) (H : Hp) (C : Addr) (cl : List (Str × Addr)) (fp : List Addr), PG (X.blk s H scope (blkE X scope cl C) fp) tg1 g1)
    (he : ∀ (s : Shared) (H : Hp) (C : Addr) (cl : List (Str × Addr)) (fp : List Addr), PE (X.blk s H scope (blkE X scope cl C) fp) elt te)
    (hs : ∀ x, foldedSetIterable iter X.env x = pure x) (hs1 : ∀ env x, foldedSetIterable iter1 env x = pure x)
    (h : tSc2 X.prog X.w wi g wi1 g1 te (own.map (·.2)) vs1 σ H Q)
    (hRR : ∀ D C s' m H', Inv X pins σ H' s' → Q (.ref D) H' → s'.heap.Ns C m → FpOk X pins H' C → compPost (model X.prog X.w) X.A X.xe use Qf (.ref D) C (.ok .next) s') :
    wpAny (model X.prog X.w) X.A (comprehension (twoSets elt tg iter tg1 iter1 scope pos) scope X.env pos' (newSet (.type "set")) false (eval iter X.env) use) Qf X.xe s := by
  have hfree : ∀ y ∈ scope.names, y.2 = .free → ∃ c, X.env.cells.lookup y.1 = some c := fun y hy e =>
    (ok.free y hy e).elim (fun k => I.ok.has _ (.inl k)) fun k => I.ok.has _ (.inr k)
  refine wpAny_comprehension_free (use := use) rfl hs (closure_ok hfree) ok.kind (fun y hy e => by rw [ok.uniq y hy, e]) (thn (hi.run pins s σ H _ I h) fun xv s1 hx => thn hx fun itv s2 got => ?_)
  obtain ⟨it, fp, tn, J, H2, rfl, I2, T, at0, nofp, q⟩ := got
  refine PpSet.newSet_ok (newEnv_comp ?_)
  generalize hD : s2.heap.objs.size = D
  have Dn : H2 D = none := I2.hok.fresh (Nat.le_of_eq hD)
  obtain ⟨W, ⟨m0, w0⟩, turn⟩ := q D Dn
  generalize e3 : ({ s2 with heap := s2.heap.push { cls := .type "set", dict := none, data := .set #[] 0 (.fresh 0 0 (!X.w.params.followText "set-order")) } } : Shared) = s3
  have heap3 : s3.heap = s2.heap.push { cls := .type "set", dict := none, data := .set #[] 0 (.fresh 0 0 (!X.w.params.followText "set-order")) } := by rw [← e3]
  have I3 : Inv X pins σ (upd H2 D (TxO X.prog X.w D [])) s3 := by
    subst e3 hD
    exact I2.laid (t' := s2.toks) (fun b o e => Heap.get?_push_of_some _ e) (Nat.le_refl _) (txO_ok (txS_fresh X.prog X.w))
  have nof3 : ∀ b ∈ fp, FpOk X pins (upd H2 D (TxO X.prog X.w D [])) b ∧ b < s3.heap.objs.size := fun b hb => by
    obtain ⟨o, e, _⟩ := T.obj _ _ at0 b hb
    have lt := Heap.lt_size e
    have ne : b ≠ D := by rw [← hD]; exact Nat.ne_of_lt lt
    exact ⟨⟨by rw [upd_ne ne]; exact (nofp b hb).1, (nofp b hb).2⟩, by rw [heap3, Heap.size_push]; exact Nat.lt_succ_of_lt lt⟩
  have at3 : tn 0 s3.heap := T.keep _ _ _ at0 fun b _ o e => by rw [heap3]; exact Heap.get?_push_of_some _ e
  have I4 := block_start I3 ok hN nof3
  show codeAny _ _ (.compStart (twoSets elt tg iter tg1 iter1 scope pos) 0 (.ref it) (.ref D) (compEnvC scope (cellsFrom (s3.heap.objs.size + 1) scope.names (cloFrom X.env.cells scope.names [])) s3.heap.objs.size X.env)) (compPost (model X.prog X.w) X.A X.xe use Qf (.ref D) s3.heap.objs.size) { s3 with heap := pushCells (s3.heap.push { cls := .type "dict", data := .dict #[] }) scope.names }
  generalize hcl : cellsFrom (s3.heap.objs.size + 1) scope.names (cloFrom X.env.cells scope.names []) = cl at I4 ⊢
  have rg := hg s3 (upd H2 D (TxO X.prog X.w D [])) s3.heap.objs.size cl fp
  have ri1 := hi1 s3 (upd H2 D (TxO X.prog X.w D [])) s3.heap.objs.size cl fp
  have rg1 := hg1 s3 (upd H2 D (TxO X.prog X.w D [])) s3.heap.objs.size cl fp
  have re := he s3 (upd H2 D (TxO X.prog X.w D [])) s3.heap.objs.size cl fp
  generalize hC : s3.heap.objs.size = C at I4 rg ri1 rg1 re ⊢
  have nf0 : ∀ b ∈ fp, (upd H2 D (TxO X.prog X.w D [])) b = none := fun b hb => (nof3 b hb).1.1
  generalize hce : blkE X scope cl C = ce at rg ri1 rg1 re
  have ece : compEnvC scope cl C X.env = ce := hce
  rw [ece] at I4 ⊢
  have cL : ce.locals = C := by rw [← hce]; rfl
  generalize hH3 : upd H2 D (TxO X.prog X.w D []) = H3 at I3 I4 rg ri1 rg1 re w0 nf0 nof3
  generalize hs4 : ({ s3 with heap := pushCells (s3.heap.push { cls := .type "dict", data := .dict #[] }) scope.names } : Shared) = s4 at I4 ⊢
  have at4 : tn 0 s4.heap := T.keep _ _ _ at3 fun b _ o e => by rw [← hs4]; exact pushCells_keeps _ _ _ _ (Heap.get?_push_of_some _ e)
  generalize hvs : own.map (·.2) = vs at *
  have fpok : ∀ {σ' : L2.St} {H' : Hp} {s' : Shared}, Inv (X.blk s3 H3 scope ce fp) [] σ' H' s' → (∀ b ∈ fp, H' b = none) → ∀ b ∈ fp, FpOk (X.blk s3 H3 scope ce fp) [] H' b := fun {σ' H' s'} I' hn b hb =>
    ⟨hn b hb, (I'.ok.exf b hb).1, I'.ok.exfs b hb, .inl hb, fun x c e => (I'.ok.exf b hb).2 x c e, fun p hp => absurd (show p ∈ ([] : List (Addr × Obj)) ++ [] from hp) (by simp)⟩
  have main : codeAny (model X.prog X.w) X.A (.compLoop (twoSets elt tg iter tg1 iter1 scope pos) 0 (.ref it) (.ref D) ce) (compPost (model X.prog X.w) X.A X.xe use Qf (.ref D) C) s4 := by
    refine loop_outer (hs1 ce) (fun n s' => ∃ i H', Inv (X.blk s3 H3 scope ce fp) [] (wipe σ vs) H' s' ∧ tn i s'.heap ∧ (∀ b ∈ fp, H' b = none) ∧ W i n H') ?_ m0 ⟨0, H3, I4, at4, nf0, w0⟩
    rintro n s5 ⟨i, H5, I5, at5, nf5, w5⟩
    rcases turn i n H5 w5 with ⟨stop, fin⟩ | ⟨go, Nx, less, step⟩
    · refine thnF (T.done (X.blk s3 H3 scope ce fp) rfl rfl rfl hc i [] s5 _ H5 (fun _ _ => False) I5 (fpok I5 nf5) at5 stop) fun r s6 got => ?_
      obtain ⟨rfl, I6⟩ := got
      have I7 : Inv X pins σ H5 s6 := I3.call' (ch := fp) I6.os I6.base I6.hok I6.bare fun b hb => ⟨(nof3 b hb).1.2.2.2.1, (nof3 b hb).1.2.1, (nof3 b hb).1.2.2.2.2.1, (nof3 b hb).1.2.2.2.2.2⟩
      have nC : H5 C = none := by rw [← cL]; exact I6.free
      obtain ⟨m, hn, _⟩ := I6.loc
      replace hn : s6.heap.Ns C m := by rw [← cL]; exact hn
      exact hRR D C s6 m H5 I7 fin hn (I3.fpOk (Nat.le_of_eq hC) nC)
    refine thnF (T.item (X.blk s3 H3 scope ce fp) rfl rfl rfl hc i [] s5 _ H5 (fun _ _ => False) I5 (fpok I5 nf5) at5 go) fun r s6 got => ?_
    obtain ⟨u, rfl, h6⟩ := got
    refine thnF h6 fun _ s7 got => ?_
    obtain ⟨x, H7, I7, r7, y7, at7, nf7⟩ := got
    refine thnF (rg.run _ s7 _ H7 x u _ (I7.pinned (fpok I7 nf7) (T.obj _ _ at7)) r7 (step x H7 y7)) fun _ s8 got => ?_
    obtain ⟨σ8, H8, I8, ew, q8⟩ := got
    have len8 : (wipe σ vs).length = σ8.length := by rw [← ew, wipe_length]
    have know8 : ∀ (j : Nat) v, (wipe σ vs)[j]? = some (some v) → (wipe σ8 vs1)[j]? = some (some v) := fun j v e => by
      rw [← ew] at e
      obtain ⟨e1, e2⟩ := wipe_some e
      rw [wipe_out fun z => e2 (hv j z)]
      exact e1
    have next : ∀ {s' : Shared} {H' : Hp}, Inv (X.blk s3 H3 scope ce fp) ([] ++ pinsAt fp s7.heap) (wipe σ8 vs1) H' s' → Nx H' →
        ∃ m, m < n ∧ ∃ i H', Inv (X.blk s3 H3 scope ce fp) [] (wipe σ vs) H' s' ∧ tn i s'.heap ∧ (∀ b ∈ fp, H' b = none) ∧ W i m H' := fun {s' H'} I' nx => by
      obtain ⟨m', lt, w'⟩ := less H' nx
      have kept : ∀ b ∈ fp, ∀ o, s7.heap.get? b = some o → s'.heap.get? b = some o ∧ H' b = none := fun b hb o e => by
        have z := I'.pin (b, o) (List.mem_append_right _ (List.mem_append_right _ (mem_pinsAt hb e)))
        exact ⟨z.1, z.2.1⟩
      refine ⟨m', lt, i + 1, H', (I'.unpinned (pins := [])).weak (len8.trans (wipe_length σ8 vs1).symm) know8, T.keep _ _ _ at7 fun b hb o e => (kept b hb o e).1, fun b hb => ?_, w'⟩
      obtain ⟨o, e, _⟩ := T.obj _ _ at7 b hb
      exact (kept b hb o e).2
    refine thnF (ri1.run _ s8 σ8 H8 _ I8 q8) fun xv s9 hx => thnF hx fun itv s10 got => ?_
    obtain ⟨it1, fp1, tn1, J1, H10, rfl, I10, T1, at10, nofp1, W1, ⟨k0, w1⟩, turn1⟩ := got
    have fpok1 : ∀ {H' : Hp}, (∀ b ∈ fp1, H' b = none) → ∀ b ∈ fp1, FpOk (X.blk s3 H3 scope ce fp) ([] ++ pinsAt fp s7.heap) H' b := fun hn b hb => ⟨hn b hb, (nofp1 b hb).2⟩
    have inner : codeAny (model X.prog X.w) X.A (.compLoop (twoSets elt tg iter tg1 iter1 scope pos) 1 (.ref it1) (.ref D) ce)
        (fun r s' => match r with
          | .ok _ => ∃ m, m < n ∧ ∃ i H', Inv (X.blk s3 H3 scope ce fp) [] (wipe σ vs) H' s' ∧ tn i s'.heap ∧ (∀ b ∈ fp, H' b = none) ∧ W i m H'
          | .error _ => False) s10 := by
      refine loop_inner (fun k s' => ∃ j H', Inv (X.blk s3 H3 scope ce fp) ([] ++ pinsAt fp s7.heap) (wipe σ8 vs1) H' s' ∧ tn1 j s'.heap ∧ (∀ b ∈ fp1, H' b = none) ∧ W1 j k H') ?_ k0 ⟨0, H10, I10.weak (wipe_length _ _) (fun j v e => (wipe_some e).1), at10, fun b hb => (nofp1 b hb).1, w1⟩
      rintro k s11 ⟨j, H11, I11, at11, nf11, w11⟩
      rcases turn1 j k H11 w11 with ⟨stop1, nx⟩ | ⟨go1, Nx1, less1, step1⟩
      · refine thnF (T1.done (X.blk s3 H3 scope ce fp) rfl rfl rfl hc j _ s11 _ H11 (fun _ _ => False) I11 (fpok1 nf11) at11 stop1) fun r s12 got => ?_
        obtain ⟨rfl, I12⟩ := got
        exact next I12 nx
      · refine thnF (T1.item (X.blk s3 H3 scope ce fp) rfl rfl rfl hc j _ s11 _ H11 (fun _ _ => False) I11 (fpok1 nf11) at11 go1) fun r s12 got => ?_
        obtain ⟨u1, rfl, h12⟩ := got
        refine thnF h12 fun _ s13 got => ?_
        obtain ⟨x1, H13, I13, r13, y13, at13, nf13⟩ := got
        refine thnF (rg1.run _ s13 _ H13 x1 u1 _ (I13.pinned (fpok1 nf13) (T1.obj _ _ at13)) r13 (step1 x1 H13 y13)) fun _ s14 got => ?_
        obtain ⟨σ14, H14, I14, ew1, q14⟩ := got
        refine thnF (re.run _ s14 σ14 H14 _ I14 q14) fun v s15 got => ?_
        obtain ⟨y, H15, I15, r15, kk, l, rfl, hl15, room, nx⟩ := got
        refine txO_add (X := X.blk s3 H3 scope ce fp) I15 hl15 room r15 fun s16 I16 => ?_
        obtain ⟨k', lt, w'⟩ := less1 _ nx
        have kept : ∀ b ∈ fp1, ∀ o, s13.heap.get? b = some o → s16.heap.get? b = some o ∧ (upd H15 D (TxO X.prog X.w D (if kk ∈ l then l else kk :: l))) b = none := fun b hb o e => by
          have z := I16.pin (b, o) (List.mem_append_right _ (List.mem_append_right _ (mem_pinsAt hb e)))
          exact ⟨z.1, z.2.1⟩
        refine ⟨k', lt, j + 1, _, I16.unpinned.weak (by rw [← ew1, wipe_length]) (fun j v e => by rw [← ew1] at e; exact (wipe_some e).1), T1.keep _ _ _ at13 fun b hb o e => (kept b hb o e).1, fun b hb => ?_, w'⟩
        obtain ⟨o, e, _⟩ := T1.obj _ _ at13 b hb
        exact (kept b hb o e).2
    exact start_inner inner (T1.self X.A 0 _ _ _ at10 inner)
  exact PpSet.codeAny_compStart_set main (T.self X.A 0 _ _ _ at4 main)
theorem pe_sc2 (hc : X.calm = true) (hN : X.N.Nodup) (hi : PI X tg iter wi) (ok : BlkOk X.N X.env.scope scope own) (hv : ∀ i ∈ vs1, i ∈ own.map (·.2))
    (hg : ∀ (s : Shared) (H : Hp) (C : Addr) (cl : List (Str × Addr)) (fp : List Addr), PG (X.blk s H scope (blkE X scope cl C) fp) tg g)
    (hi1 : ∀ (s : Shared) (H : Hp) (C : Addr) (cl : List (Str × Addr)) (fp : List Addr), PI (X.blk s H scope (blkE X scope cl C) fp) tg1 iter1 wi1)
    (hg1 : ∀ (s : Shared) (H : Hp) (C : Addr) (cl : List (Str × Addr)) (fp : List Addr), PG (X.blk s H scope (blkE X scope cl C) fp) tg1 g1)
    (he : ∀ (s : Shared) (H : Hp) (C : Addr) (cl : List (Str × Addr)) (fp : List Addr), PE (X.blk s H scope (blkE X scope cl C) fp) elt te)
    (hs : ∀ x, foldedSetIterable iter X.env x = pure x := by intro _; rfl) (hs1 : ∀ env x, foldedSetIterable iter1 env x = pure x := by intro _ _; rfl) :
    PE X (twoSets elt tg iter tg1 iter1 scope pos) (tSc2 X.prog X.w wi g wi1 g1 te (own.map (·.2)) vs1) := by
  refine ⟨fun pins s σ H Q I h => ?_⟩
  rw [PpSet.eval_SetComp]
  refine sc2_core hc hN I hi ok hv hg hi1 hg1 he hs hs1 h fun D C s' m H' I' q hn f => ⟨m, hn, fun h'' sb => ?_⟩
  obtain ⟨f0, f1, f2, f3, f4, f5⟩ := f
  exact ⟨.ref D, H', I'.turned (t' := s'.toks) (fun b o hb e => (sb.2 b hb).trans e) f0 f1 f3 f4 f5, rfl, q⟩
theorem ps_setSc2 {i : Nat} {y : Str} {py spos : Pos} (hc : X.calm = true) (hN : X.N.Nodup) (hy : X.N[i]? = some y) (hyl : X.env.scope.names.lookup y = some .local)
    (hsw : swapsWith (twoSets elt tg iter tg1 iter1 scope pos) (some (.Name y py)) spos.line X.env = pure true) (hi : PI X tg iter wi) (ok : BlkOk X.N X.env.scope scope own) (hv : ∀ i ∈ vs1, i ∈ own.map (·.2))
    (hg : ∀ (s : Shared) (H : Hp) (C : Addr) (cl : List (Str × Addr)) (fp : List Addr), PG (X.blk s H scope (blkE X scope cl C) fp) tg g)
    (hi1 : ∀ (s : Shared) (H : Hp) (C : Addr) (cl : List (Str × Addr)) (fp : List Addr), PI (X.blk s H scope (blkE X scope cl C) fp) tg1 iter1 wi1)
    (hg1 : ∀ (s : Shared) (H : Hp) (C : Addr) (cl : List (Str × Addr)) (fp : List Addr), PG (X.blk s H scope (blkE X scope cl C) fp) tg1 g1)
    (he : ∀ (s : Shared) (H : Hp) (C : Addr) (cl : List (Str × Addr)) (fp : List Addr), PE (X.blk s H scope (blkE X scope cl C) fp) elt te)
    (hs : ∀ x, foldedSetIterable iter X.env x = pure x := by intro _; rfl) (hs1 : ∀ env x, foldedSetIterable iter1 env x = pure x := by intro _ _; rfl) :
    PS X (.Assign [.Name y py] (twoSets elt tg iter tg1 iter1 scope pos) spos) (tAsg (tSc2 X.prog X.w wi g wi1 g1 te (own.map (·.2)) vs1) (gName i)) := by
  refine ⟨fun pins s σ H D I h => ?_⟩
  rw [exec_Assign_Name_used _ _ _ _ hsw]
  refine wpAny_bind (wpAny_standAt (wpAny_bind ?_))
  show wpAny _ X.A (do let _ ← comprehension (twoSets elt tg iter tg1 iter1 scope pos) scope X.env (firstIterPos [⟨tg, iter, [], 0⟩, ⟨tg1, iter1, [], 0⟩] pos) (newSet (.type "set")) false (eval iter X.env) (some (assign (.Name y py) X.env))) _ _ s
  have h : tSc2 X.prog X.w wi g wi1 g1 te (own.map (·.2)) vs1 σ H (fun x H1 => gName i x σ H1 D.nx) := h
  refine wpAny_bind (thn (sc2_core (Qf := fun _ s' => SP X pins D .next s') hc hN I hi ok hv hg hi1 hg1 he hs hs1 h fun L C s' m H' I' q hn f => ?_) fun _ s' hq => wpAny_pure (wpAny_pure hq))
  show wpAny _ _ (assign (.Name y py) X.env (.ref L)) _ _ _
  refine wpAny_assign_Name (store_ok2 (v := V.ref L) I' hN hy (.inl hyl) rfl (fun s2 I2 ⟨a, sb, ha⟩ => ?_) (.inr hyl))
  obtain ⟨f0, f1, f2, f3, f4, f5⟩ := f
  have haC : C ≠ a := by
    rcases ha with z | z
    · rw [z]; exact f1
    · exact fun e => f4 y a z e.symm
  refine ⟨m, hn.sameBut sb haC, fun h3 sb3 => ?_⟩
  exact ⟨_, H', I2.turned (t' := s2.toks) (fun b o hb e => (sb3.2 b hb).trans e) f0 f1 f3 f4 f5, q⟩
theorem sw_trueS {elt : Expr} {gs : List Comprehension} {scope : Scope} {pos py : Pos} {y : Str} {l : Nat} {env : Env} (hk : env.scope.kind = .function) (hy : env.scope.names.lookup y = some .local) (hl : (py.line == pos.line) = true)
    (ha : (scope.names.any fun (n, k) => n == y && (k == .local || k == .cell)) = false) : swapsWith (.SetComp elt gs scope pos) (some (.Name y py)) l env = pure true := by
  have ky : env.kindOf y = some .local := hy
  have hb : env.blockKind = .function := by unfold Env.blockKind; rw [hk]; rfl
  unfold swapsWith
  simp only [hb, ky, ha, Expr.pos, hl]
  rfl
end
end Ver
set_option Elab.async false
set_option linter.all false
set_option maxRecDepth 100000
set_option maxHeartbeats 4000000
namespace Ver
open PySem PySem.Spec PyProof.Rows L2 LamX
def lenKey (x : Str) : PyData := .tuple [.int x.length, .str x]
def leLen (a b : Str) : Prop := a.length < b.length ∨ (a.length = b.length ∧ leS a b)
instance (a b : Str) : Decidable (leS a b) := inferInstanceAs (Decidable (¬ b.cps.toList < a.cps.toList))
instance (a b : Str) : Decidable (leLen a b) := inferInstanceAs (Decidable (_ ∨ _))
theorem str_of_list {a b : Str} (h : a.cps.toList = b.cps.toList) : a = b := by
  cases a; cases b
  have h' := Array.toList_inj.mp h
  simp only at h'
  rw [h']
theorem dataLt_len (a b : Str) : PySem.W.dataLt (lenKey a) (lenKey b) = decide (a.length < b.length ∨ (a.length = b.length ∧ a.cps.toList < b.cps.toList)) := by
  show PySem.W.dataLt (.tuple [.int (a.length : Int), .str a]) (.tuple [.int (b.length : Int), .str b]) = _
  rw [PySem.W.dataLt_pair (by rfl) (by rfl)]
  by_cases e : a.length = b.length
  · have e1 : PyData.eqv (.int (a.length : Int)) (.int (b.length : Int)) = true := by rw [e]; simp [PyData.eqv]
    rw [if_pos e1, PySem.W.dataLt_str]
    by_cases e2 : PyData.eqv (.str a) (.str b) = true
    · have e3 : a = b := by simpa [PyData.eqv] using e2
      subst e3
      rw [if_pos e2]
      simp [List.lt_irrefl]
    · rw [if_neg e2]
      simp [e]
  · have e1 : ¬ PyData.eqv (.int (a.length : Int)) (.int (b.length : Int)) = true := by
      simp [PyData.eqv]; omega
    rw [if_neg e1, PySem.W.dataLt_int]
    simp [e]
theorem dataLe_len : PySem.W.dataLe false lenKey = fun a b => decide (leLen a b) := by
  funext a b
  show (!PySem.W.dataLt (lenKey b) (lenKey a)) = _
  rw [dataLt_len]
  by_cases h : b.length < a.length ∨ (b.length = a.length ∧ b.cps.toList < a.cps.toList)
  · have h' : ¬ leLen a b := by
      rintro (z | ⟨z1, z2⟩)
      · rcases h with h | h <;> omega
      · rcases h with h | ⟨_, h⟩
        · omega
        · exact z2 h
    rw [decide_eq_true h, decide_eq_false h'] <;> rfl
  · have h' : leLen a b := by
      by_cases e : a.length = b.length
      · exact .inr ⟨e, fun z => h (.inr ⟨e.symm, z⟩)⟩
      · refine .inl ?_
        have : ¬ b.length < a.length := fun z => h (.inl z)
        omega
    rw [decide_eq_false h, decide_eq_true h'] <;> rfl
theorem leS_trans {a b c : Str} (h1 : leS a b) (h2 : leS b c) : leS a c := List.not_lt.mpr (List.le_trans (List.not_lt.mp h1) (List.not_lt.mp h2))
theorem leS_total (a b : Str) : leS a b ∨ leS b a := by
  rcases List.le_total a.cps.toList b.cps.toList with h | h
  · exact .inl (List.not_lt.mpr h)
  · exact .inr (List.not_lt.mpr h)
theorem leLen_trans {a b c : Str} (h1 : leLen a b) (h2 : leLen b c) : leLen a c := by
  rcases h1 with h1 | ⟨h1, k1⟩ <;> rcases h2 with h2 | ⟨h2, k2⟩
  · exact .inl (by omega)
  · exact .inl (by omega)
  · exact .inl (by omega)
  · exact .inr ⟨by omega, leS_trans k1 k2⟩
theorem leLen_total (a b : Str) : leLen a b ∨ leLen b a := by
  by_cases e : a.length = b.length
  · rcases leS_total a b with h | h
    · exact .inl (.inr ⟨e, h⟩)
    · exact .inr (.inr ⟨e.symm, h⟩)
  · by_cases q : a.length < b.length
    · exact .inl (.inl q)
    · exact .inr (.inl (by omega))
theorem lens_sorted (xs : List Str) : (xs.mergeSort (PySem.W.dataLe false lenKey)).Perm xs ∧ (xs.mergeSort (PySem.W.dataLe false lenKey)).Pairwise leLen := by
  refine ⟨List.mergeSort_perm _ _, ?_⟩
  rw [dataLe_len]
  refine (List.pairwise_mergeSort (le := fun a b => decide (leLen a b)) (fun a b c h1 h2 => decide_eq_true (leLen_trans (of_decide_eq_true h1) (of_decide_eq_true h2))) (fun a b => ?_) xs).imp fun {a b} h => of_decide_eq_true h
  rcases leLen_total a b with h | h
  · rw [decide_eq_true h, Bool.true_or]
  · rw [decide_eq_true h, Bool.or_true]
section
variable {X : Cx} {pins : List (Addr × Obj)} {σ : L2.St} {H : Hp} {s : Shared}
theorem lenkey_call {scope : Scope} {params : Arguments} {q : Str} {cl : List (Str × Addr)} {pm ctv : Value} {f c' : Addr} {a : Str} {p1 p2 p3 p4 p5 : Pos} {x : Str} {t : Tok} {h : Heap} {tk k5 : Nat} {A : Around}
    (I : Inv X pins σ H s) (hm : X.mg "len" = none)
    (hf : s.heap.get? f = some (PySem.W.kla_obj "<lambda>" q params (.Tuple [.Call (.Name "len" p1) [.Name a p2] [] p3, .Name a p4] k5 p5) scope cl pm c' ctv)) (hco : H c' = some (CodeO c' q))
    (hbind : ∀ (q : Str) (cl : List (Str × Addr)) (pm cv ctv v : Value), bindArgs (PySem.W.kla_fn "<lambda>" q params (.Tuple [.Call (.Name "len" p1) [.Name a p2] [] p3, .Name a p4] k5 p5) scope cl pm cv ctv) ⟨[v], []⟩ = pure [(a, v)])
    (hk : scope.kind = .function) (hcoR : scope.isCoroutine = false) (hgen : scope.isGenerator = false) (hcell : ∀ y ∈ scope.names, y.2 ≠ .cell) (hl : scope.names.lookup a = some .local) (hlen : scope.names.lookup ("len" : Str) = some .globalImplicit)
    (hd : (a == ("__debug__" : Str)) = false) (hr : A.depth < recursionLimit) (hx : x.length ≤ sizeLine) (kp : ∀ b o, s.heap.get? b = some o → h.get? b = some o) :
    wpAny (model X.prog X.w) A (call (.ref f) [.str x t]) (PySem.W.KeyPure (lenKey x) { s with heap := h, toks := tk }) (fun _ _ => False) { s with heap := h, toks := tk } := by
  obtain ⟨⟨oc, vs, tq, hoc, hdc, hvc⟩, _, _⟩ := I.hok c' _ hco
  obtain ⟨mb, b1, b2⟩ := I.mod.blt
  have kb : ∀ b o, X.base.get? b = some o → h.get? b = some o := fun b o e => kp b o (I.bk b o e)
  have rc : codeAny (model X.prog X.w) A (.call (.ref f) ⟨[.str x t], []⟩) (fun r s' => ∃ u, r = .ok (.ret u) ∧ PySem.W.KeyPure (lenKey x) { s with heap := h, toks := tk } u s') { s with heap := h, toks := tk } := by
    refine PySem.W.kla_callFunE hr (kp _ _ hf) rfl hcoR hgen rfl ⟨c', oc, vs, tq, rfl, kp _ _ hoc, hdc, hvc⟩ ?_
    rw [hbind]
    refine wpAny_pure (wpAny_newFunctionEnv hcell (fun y hy => ?_) (fun h₁ hns hsb => ⟨(I.nolimit.keeps kp).fresh _ hsb, ?_⟩) hk)
    · rw [List.mem_singleton.mp hy]
      exact hl
    have kp1 : ∀ b o, h.get? b = some o → h₁.get? b = some o := fun b o e => hsb.extBut b o (Nat.ne_of_lt (Heap.lt_size e)) (Heap.get?_push_of_some _ e)
    refine PySem.W.kla_codeExpr ?_
    show wpAny _ _ (eval _ (PySem.W.envX q scope h.objs.size f (.ref c') cl)) _ _ _
    refine wpAny_Tuple_spliced (args_cons (Call_ (Calls.Name_function_global hk hlen (Calls.loadGlobal_builtin (I.mod.glob.keeps fun b o e => kp1 b o (kb b o e)) hm (b1.keeps fun b o e => kp1 b o (kb b o e)) ((b2 "len" (by decide)).trans boot_len) ?_)) rfl) rfl)
    refine PyProof.Rows.callWith_builtin1 (args_cons (wpAny_Name (wpAny_loadName_local hk hl hns (v := .str x t) (by simp) ?_) hd) rfl) rfl rfl
    refine args_nil (len_str (by rw [sizeLine_eq] at hx; omega) ?_)
    refine args_cons (wpAny_Name (wpAny_loadName_local hk hl hns (v := .str x t) (by simp) ?_) hd) rfl
    refine args_nil ⟨by show 2 ≤ sizeLine; decide, ?_⟩
    refine ⟨_, rfl, _, _, rfl, fun b o e => Heap.get?_push_of_some _ (kp1 b o e), ?_⟩
    exact .tuple (Heap.get?_push_size _ rfl) rfl rfl (.cons (.int _ _) (.cons (.str _ _) .nil))
  exact wpAny_call (codeAny_mono rc fun r s' ⟨u, e, hq⟩ => by subst e; exact hq)
def tSortLen (K : PySem.W.Frag) (T : List (Addr × Str)) (te : TE) : TE := fun σ H Q => te σ H fun v H1 => ∃ (a : Addr) (xs : List Str), v = .ref a ∧ H1 a = some (.lst (xs.map V.str)) ∧ (∀ x ∈ xs, x.length ≤ sizeLine) ∧ Tabs T H1 ∧
  ∀ (H2 : Hp) (ys : List Str) (p : Addr), ExtN H1 H2 → Tabs T H2 → ys.Perm xs → ys.Pairwise leLen → H2 p = none → Q (.ref p) (upd H2 p (.lst (ys.map V.str)))
theorem strs_each : ∀ {vs : List Value} {xs : List Str}, StrsAre vs xs → PySem.W.EachIs (fun v (x : Str) => ∃ t, v = .str x t) vs xs
  | _, _, .nil => .nil
  | _, _, .cons x t h => .cons ⟨t, rfl⟩ (strs_each h)
theorem each_strs : ∀ {vs : List Value} {xs : List Str}, PySem.W.EachIs (fun v (x : Str) => ∃ t, v = .str x t) vs xs → StrsAre vs xs
  | _, _, .nil => .nil
  | _, _, .cons ⟨t, e⟩ h => by
    subst e
    exact .cons _ t (each_strs h)
theorem pe_sortLen {T : List (Addr × Str)} {c P : Addr} {k k5 : Nat} {e : Expr} {te : TE} {a : Str} {params : Arguments} {scope : Scope} {p pos lpos kpos p1 p2 p3 p4 p5 : Pos}
    (hr : Room k X.A) (TB : TabB X.base X.mg c P) (hcode : X.env.code = .ref c) (hmT : (P, X.env.qual ++ "<lambda>") ∈ T) (hu : ∀ p ∈ T, p.1 = P → p.2 = X.env.qual ++ "<lambda>")
    (hg : Gl X "sorted") (hmS : X.mg "sorted" = none) (hmL : X.mg "len" = none) (he : PE X e te)
    (hk : scope.kind = .function := by rfl) (hcoR : scope.isCoroutine = false := by rfl) (hgen : scope.isGenerator = false := by rfl) (hcell : ∀ y ∈ scope.names, y.2 ≠ .cell ∧ y.2 ≠ .free := by decide) (hl : scope.names.lookup a = some .local := by rfl)
    (hlen : scope.names.lookup ("len" : Str) = some .globalImplicit := by rfl) (hd : (a == ("__debug__" : Str)) = false := by decide) (hdef : defaultsOf params X.env = ([], []) := by rfl)
    (hbind : ∀ (q : Str) (cl : List (Str × Addr)) (pm cv ctv v : Value), bindArgs (PySem.W.kla_fn "<lambda>" q params (.Tuple [.Call (.Name "len" p1) [.Name a p2] [] p3, .Name a p4] k5 p5) scope cl pm cv ctv) ⟨[v], []⟩ = pure [(a, v)] := by intros; rfl)
    (hs : backTo pos (starEach [e] X.env) = (false, eval e X.env) :: backTo pos (starEach [] X.env) := by rfl) :
    PE X (.Call (.Name "sorted" p) [e] [⟨some "key", .Lambda params (.Tuple [.Call (.Name "len" p1) [.Name a p2] [] p3, .Name a p4] k5 p5) scope lpos, kpos⟩] pos) (tSortLen X.K T te) := by
  refine ⟨fun pins s σ H Q I h => ?_⟩
  refine wpAny_Call_Name_kw (ld_blt I hg hmS boot_sorted ?_)
  refine PyProof.Rows.callWith_kw ?_ hs (by rw [hs] <;> rfl) (by rfl) (by rfl)
  rw [hs]
  refine Calls.spliced_cons (thn (he.run pins s σ H _ I h) fun u s1 ⟨v, H1, I1, r1, q1⟩ => ?_)
  obtain ⟨l, xs, rfl, hl1, hx, hT, q⟩ := q1
  obtain rfl : u = Value.ref l := r1
  refine args_nil ?_
  refine kws_cons (lam_make2 I1 TB hcode hmT hu hT hdef (fun y hy z => absurd z (hcell y hy).2) fun f c' pm' ctv H2 s2 I2 eN T2 hf hfn hfr hco => ?_)
  refine kws_nil ?_
  have hl2 : H2 l = some (.lst (xs.map V.str)) := eN _ _ hl1 fun ps z => by cases z
  obtain ⟨hz, its, n, rv, ho⟩ := I2.hok l _ hl2
  have hi := strs_of_vals rv
  have hlen2 : xs.length ≤ sizeLine := by rw [List.length_map] at hz; exact hz
  have pl := lens_sorted xs
  refine PySem.W.sorted_key_data (b := false) lenKey (R := fun v (x : Str) => ∃ t, v = .str x t) (bs := xs) ⟨_, ho, rfl, _, rfl⟩ (strs_each hi) (PySem.W.AllAlike.of fun b b' => by rfl) (PySem.W.Sortable.tuples fun b => ⟨_, _, rfl⟩) hlen2 (fun x _ => ?_)
    (PyProof.Rows.ksk_s1 _ _) (fun _ => PyProof.Rows.ksk_l1 _ _) (fun _ => PyProof.Rows.ksk_t1 _ _) (fun v x hv hm h tk kp => ?_) fun out cc h' tk kp fr hD hlo eo => ?_
  · have := hr.un
    have hd : (lenKey x).depth = 1 := by simp [lenKey, PyData.depth, PyData.depthAll]
    omega
  · obtain ⟨t, rfl⟩ := hv
    exact lenkey_call I2 hmL hf hco hbind hk hcoR hgen (fun y hy => (hcell y hy).1) hl hlen hd hr.depth (hx x hm) kp
  · have so := each_strs eo
    have hn : H2 (s2.heap.objs.size + 1) = none := I2.hok.fresh (Nat.le_succ _)
    have hll : ((xs.mergeSort (PySem.W.dataLe false lenKey)).map V.str).length ≤ sizeLine := by
      rw [List.length_map, pl.1.length_eq]
      exact hlen2
    refine ⟨.ref _, upd H2 (s2.heap.objs.size + 1) (.lst ((xs.mergeSort (PySem.W.dataLe false lenKey)).map V.str)), I2.laid (t' := tk) kp (Nat.le_succ _) ⟨hll, out, cc, vals_of_strs2 so, hD⟩, rfl, q _ _ _ eN T2 pl.1 pl.2 hn⟩
end
theorem Fun.okC {P : Program} {w : World} {K : PySem.W.Frag} {mg : Str → Option Value} {base : Heap} {x qual : Str} {st : Stmt} {f c : Addr} {fd : FuncData} {N ps : List Str} {k : Nat} {sp : Sp} (F : Fun K x qual st f fd) (hc : fd.code = .ref c) (S : FnScope N ps (defScope st)) (len : ∀ vs H Q E, sp vs H Q E → vs.length = ps.length)
    (hbody : ∀ (A : Around) (outer : List Env) (s : Shared) (H : Hp) (vs : List V) (Q : VK) (E : XK), Room k (A.deeper (envOfC qual (defScope st) s.heap.objs.size f (.ref c))) → sp vs H Q E →
      ∃ t, PSs (cxOf CX0 P w K mg base N qual (defScope st) f (.ref c) A outer s H E).nox (defBody st) t ∧ t { nx := fun _ H' => Q .non H', rt := Q } (start N vs) H) : FnOk P w K mg base CX0 (k + 1) f fd ps sp := by
  obtain ⟨oc, od, kV, doc, pm, an, cdv, ct, osl, rfl, lk, hcd⟩ := F.ex
  have hc' : cdv = .ref c := hc
  subst hc'
  refine fn_of lk hcd S len fun A outer s H vs Q E hr hsp => ?_
  obtain ⟨t, h, q⟩ := hbody A outer s H vs Q E hr hsp
  exact ⟨t, h.nox, q⟩
end Ver
set_option Elab.async false
set_option linter.all false
set_option maxRecDepth 100000
set_option maxHeartbeats 2000000
namespace Ver
open PySem PySem.Spec PyProof.Rows L2
theorem it_tup {K : PySem.W.Frag} {a : Addr} {xs : List V} {H0 : Hp} {Qd : Hp → Prop} {B : V → Hp → (Hp → Prop) → Prop} (S : Nat → Hp → Prop) (h0 : S 0 H0) (hl : ∀ i H, S i H → SqT K H a xs)
    (hs : ∀ i x H, xs[i]? = some x → S i H → B x H (S (i + 1))) (hd : ∀ H, S xs.length H → Qd H) :
    ∃ W : Nat → Nat → Hp → Prop, (∃ m, W 0 m H0) ∧ ∀ i m H, W i m H →
      ((Itt K a).stop i H ∧ Qd H) ∨ ((Itt K a).go i H ∧ ∃ Nx : Hp → Prop, (∀ H', Nx H' → ∃ m', m' < m ∧ W (i + 1) m' H') ∧ ∀ x H', (Itt K a).yld i H x H' → B x H' Nx) := by
  refine ⟨fun i m H => i + m = xs.length ∧ S i H, ⟨xs.length, Nat.zero_add _, h0⟩, fun i m H ⟨e, p⟩ => ?_⟩
  have st := hl i H p
  by_cases lt : i < xs.length
  · refine .inr ⟨⟨xs, xs[i], st, List.getElem?_eq_getElem lt⟩, S (i + 1), fun H' q => ⟨m - 1, by omega, by omega, q⟩, fun x H' y => ?_⟩
    obtain ⟨e1, y⟩ := y
    subst e1
    exact hs i x _ (y xs st) p
  · have : i = xs.length := by omega
    subst this
    exact .inl ⟨⟨xs, st, Nat.le_refl _⟩, hd H p⟩
theorem it_range {n : Nat} {H0 : Hp} {Qd : Hp → Prop} {B : V → Hp → (Hp → Prop) → Prop} (S : Nat → Hp → Prop) (h0 : S 0 H0)
    (hs : ∀ i H, i < n → S i H → B (.int (i : Int)) H (S (i + 1))) (hd : ∀ H, S n H → Qd H) :
    ∃ W : Nat → Nat → Hp → Prop, (∃ m, W 0 m H0) ∧ ∀ i m H, W i m H →
      ((Itr 0 n).stop i H ∧ Qd H) ∨ ((Itr 0 n).go i H ∧ ∃ Nx : Hp → Prop, (∀ H', Nx H' → ∃ m', m' < m ∧ W (i + 1) m' H') ∧ ∀ x H', (Itr 0 n).yld i H x H' → B x H' Nx) := by
  refine ⟨fun i m H => i + m = n ∧ S i H, ⟨n, Nat.zero_add _, h0⟩, fun i m H ⟨e, p⟩ => ?_⟩
  by_cases lt : i < n
  · refine .inr ⟨lt, S (i + 1), fun H' q => ⟨m - 1, by omega, by omega, q⟩, fun x H' y => ?_⟩
    obtain ⟨e1, y⟩ := y
    subst e1 y
    rw [Int.zero_add]
    exact hs i _ lt p
  · have : i = n := by omega
    subst this
    exact .inl ⟨Nat.le_refl _, hd H p⟩
def takeS (z : Str) (k : Nat) : Str := ⟨(z.cps.toList.take k).toArray⟩
theorem takeS_len {z : Str} {k : Nat} (h : k ≤ z.length) : (takeS z k).length = k := by
  show (z.cps.toList.take k).toArray.size = k
  rw [List.size_toArray, List.length_take, Array.length_toList]
  exact Nat.min_eq_left h
def IsInner (ts : List Str) (z : Str) : Prop := ∃ t ∈ ts, ∃ k, k < t.length ∧ z = takeS t k
structure Inner (ts R : List Str) : Prop where
  nd : R.Nodup
  mem : ∀ z, z ∈ R ↔ IsInner ts z
  ord : R.Pairwise leLen
end Ver
set_option Elab.async false
set_option linter.all false
set_option maxRecDepth 100000
set_option maxHeartbeats 2000000
namespace K1
open PySem PySem.Spec PyProof.Rows L2 Ver
def topS (i : Nat) : Stmt := PySem.Challenge.pw_stillends_k01_inner_texts_and_rows.main.body.getD i (.Pass ⟨0, 0, 0, 0⟩)
abbrev s_is_int : Stmt := topS 6
theorem sc_is_int : FnScope ["thing"] ["thing"] (defScope s_is_int) := ⟨rfl, rfl, rfl, by decide +kernel, rfl, by decide +kernel, by decide +kernel⟩
abbrev s_is_number : Stmt := topS 7
theorem sc_is_number : FnScope ["thing"] ["thing"] (defScope s_is_number) := ⟨rfl, rfl, rfl, by decide +kernel, rfl, by decide +kernel, by decide +kernel⟩
abbrev s_is_text : Stmt := topS 8
theorem sc_is_text : FnScope ["thing", "sign"] ["thing"] (defScope s_is_text) := ⟨rfl, rfl, rfl, by decide +kernel, rfl, by decide +kernel, by decide +kernel⟩
abbrev s__is_sign : Stmt := topS 9
theorem sc__is_sign : FnScope ["sign"] ["sign"] (defScope s__is_sign) := ⟨rfl, rfl, rfl, by decide +kernel, rfl, by decide +kernel, by decide +kernel⟩
abbrev s_is_below : Stmt := topS 13
theorem sc_is_below : FnScope ["thing", "bound"] ["thing", "bound"] (defScope s_is_below) := ⟨rfl, rfl, rfl, by decide +kernel, rfl, by decide +kernel, by decide +kernel⟩
abbrev s_are_below : Stmt := topS 14
theorem sc_are_below : FnScope ["thing", "bound", "part"] ["thing", "bound"] (defScope s_are_below) := ⟨rfl, rfl, rfl, by decide +kernel, rfl, by decide +kernel, by decide +kernel⟩
abbrev s_ask_row : Stmt := topS 15
theorem sc_ask_row : FnScope ["tokens", "row"] ["tokens", "row"] (defScope s_ask_row) := ⟨rfl, rfl, rfl, by decide +kernel, rfl, by decide +kernel, by decide +kernel⟩
abbrev s_ask_text : Stmt := topS 16
theorem sc_ask_text : FnScope ["text"] ["text"] (defScope s_ask_text) := ⟨rfl, rfl, rfl, by decide +kernel, rfl, by decide +kernel, by decide +kernel⟩
abbrev s_by_length : Stmt := topS 18
theorem sc_by_length : FnScope ["things"] ["things"] (defScope s_by_length) := ⟨rfl, rfl, rfl, by decide +kernel, rfl, by decide +kernel, by decide +kernel⟩
abbrev s_inner_texts : Stmt := topS 20
theorem sc_inner_texts : FnScope ["tokens", "found", "token", "k"] ["tokens"] (defScope s_inner_texts) := ⟨rfl, rfl, rfl, by decide +kernel, rfl, by decide +kernel, by decide +kernel⟩
abbrev s_token_number : Stmt := topS 21
theorem sc_token_number : FnScope ["tokens", "text"] ["tokens", "text"] (defScope s_token_number) := ⟨rfl, rfl, rfl, by decide +kernel, rfl, by decide +kernel, by decide +kernel⟩
abbrev s_token_numbers : Stmt := topS 22
theorem sc_token_numbers : FnScope ["tokens", "k", "token"] ["tokens"] (defScope s_token_numbers) := ⟨rfl, rfl, rfl, by decide +kernel, rfl, by decide +kernel, by decide +kernel⟩
abbrev s_row_text : Stmt := topS 24
theorem sc_row_text : FnScope ["tokens", "row"] ["tokens", "row"] (defScope s_row_text) := ⟨rfl, rfl, rfl, by decide +kernel, rfl, by decide +kernel, by decide +kernel⟩
abbrev s_joined : Stmt := topS 25
theorem sc_joined : FnScope ["tokens", "row", "token"] ["tokens", "row"] (defScope s_joined) := ⟨rfl, rfl, rfl, by decide +kernel, rfl, by decide +kernel, by decide +kernel⟩
abbrev s__law_pool : Stmt := topS 27
theorem sc__law_pool : FnScope ["script", "room", "pool", "cell", "number", "turned"] ["script"] (defScope s__law_pool) := ⟨rfl, rfl, rfl, by decide +kernel, rfl, by decide +kernel, by decide +kernel⟩
abbrev s__law_pick : Stmt := topS 28
theorem sc__law_pick : FnScope ["pool", "many", "number"] ["pool", "many"] (defScope s__law_pick) := ⟨rfl, rfl, rfl, by decide +kernel, rfl, by decide +kernel, by decide +kernel⟩
abbrev s__law_all : Stmt := topS 29
theorem sc__law_all : FnScope [] [] (defScope s__law_all) := ⟨rfl, rfl, rfl, by decide +kernel, rfl, by decide +kernel, by decide +kernel⟩
abbrev s__law_same : Stmt := topS 30
theorem sc__law_same : FnScope ["told", "due", "one", "two"] ["told", "due"] (defScope s__law_same) := ⟨rfl, rfl, rfl, by decide +kernel, rfl, by decide +kernel, by decide +kernel⟩
abbrev s__law_word : Stmt := topS 31
theorem sc__law_word : FnScope ["pool", "signs", "most", "text", "k"] ["pool", "signs", "most"] (defScope s__law_word) := ⟨rfl, rfl, rfl, by decide +kernel, rfl, by decide +kernel, by decide +kernel⟩
abbrev s__law_tokens : Stmt := topS 32
theorem sc__law_tokens : FnScope ["pool", "many", "signs", "most", "row", "k", "word", "turn"] ["pool", "many", "signs", "most"] (defScope s__law_tokens) := ⟨rfl, rfl, rfl, by decide +kernel, rfl, by decide +kernel, by decide +kernel⟩
abbrev s__law_drawn_tokens : Stmt := topS 33
theorem sc__law_drawn_tokens : FnScope ["pool", "letters", "kind", "first", "signs", "big", "tokens", "long", "k"] ["pool"] (defScope s__law_drawn_tokens) := ⟨rfl, rfl, rfl, by decide +kernel, rfl, by decide +kernel, by decide +kernel⟩
abbrev s__law_inner : Stmt := topS 34
theorem sc__law_inner : FnScope ["tokens", "due", "n", "found", "token"] ["tokens"] (defScope s__law_inner) := ⟨rfl, rfl, rfl, by decide +kernel, rfl, by decide +kernel, by decide +kernel⟩
abbrev s__law_number : Stmt := topS 35
theorem sc__law_number : FnScope ["tokens", "text", "due", "t"] ["tokens", "text"] (defScope s__law_number) := ⟨rfl, rfl, rfl, by decide +kernel, rfl, by decide +kernel, by decide +kernel⟩
abbrev s__law_number_told : Stmt := topS 36
theorem sc__law_number_told : FnScope ["tokens", "text", "named", "e"] ["tokens", "text", "named"] (defScope s__law_number_told) := ⟨rfl, rfl, rfl, by decide +kernel, rfl, by decide +kernel, by decide +kernel⟩
abbrev s__law_text_told : Stmt := topS 37
theorem sc__law_text_told : FnScope ["tokens", "row", "named", "e"] ["tokens", "row", "named"] (defScope s__law_text_told) := ⟨rfl, rfl, rfl, by decide +kernel, rfl, by decide +kernel, by decide +kernel⟩
abbrev s__law_letters : Stmt := topS 38
theorem sc__law_letters : FnScope ["tokens", "row", "text", "t", "sign"] ["tokens", "row"] (defScope s__law_letters) := ⟨rfl, rfl, rfl, by decide +kernel, rfl, by decide +kernel, by decide +kernel⟩
abbrev s__law_rows : Stmt := topS 39
theorem sc__law_rows : FnScope ["m", "most", "rows", "last", "n", "longer", "row", "t"] ["m", "most"] (defScope s__law_rows) := ⟨rfl, rfl, rfl, by decide +kernel, rfl, by decide +kernel, by decide +kernel⟩
abbrev s__law_texts_right : Stmt := topS 40
theorem sc__law_texts_right : FnScope ["pool", "tokens", "inner", "asked", "token", "text", "last", "odd", "turn", "thing"] ["pool", "tokens"] (defScope s__law_texts_right) := ⟨rfl, rfl, rfl, by decide +kernel, rfl, by decide +kernel, by decide +kernel⟩
abbrev s__law_rows_right : Stmt := topS 41
theorem sc__law_rows_right : FnScope ["pool", "tokens", "m", "rows", "row", "some", "odd", "turn", "thing", "told", "k"] ["pool", "tokens"] (defScope s__law_rows_right) := ⟨rfl, rfl, rfl, by decide +kernel, rfl, by decide +kernel, by decide +kernel⟩
abbrev s_law : Stmt := topS 42
theorem sc_law : FnScope ["script", "pool", "one", "two", "tokens"] ["script"] (defScope s_law) := ⟨rfl, rfl, rfl, by decide +kernel, rfl, by decide +kernel, by decide +kernel⟩
def kw_token_number {α : Type} : List α → List α | [a, b] => [b, a] | _ => []
theorem kwr_token_number {zs : List V} {ws : List Value} (r : Vals zs ws) : Vals (kw_token_number zs) (kw_token_number ws) := by
  rcases r with _ | ⟨h0, _ | ⟨h1, _ | ⟨hx, hy⟩⟩⟩
  all_goals first | exact .nil | exact .cons h1 (.cons h0 (.nil))
def kw_row_text {α : Type} : List α → List α | [a, b] => [b, a] | _ => []
theorem kwr_row_text {zs : List V} {ws : List Value} (r : Vals zs ws) : Vals (kw_row_text zs) (kw_row_text ws) := by
  rcases r with _ | ⟨h0, _ | ⟨h1, _ | ⟨hx, hy⟩⟩⟩
  all_goals first | exact .nil | exact .cons h1 (.cons h0 (.nil))
def kw_inner_texts {α : Type} : List α → List α | [a] => [a] | _ => []
theorem kwr_inner_texts {zs : List V} {ws : List Value} (r : Vals zs ws) : Vals (kw_inner_texts zs) (kw_inner_texts ws) := by
  rcases r with _ | ⟨h0, _ | ⟨hx, hy⟩⟩
  all_goals first | exact .nil | exact .cons h0 (.nil)
structure Tx (K : PySem.W.Frag) (mg : Str → Option Value) where
  f_is_int : Addr
  d_is_int : FuncData
  F_is_int : Fun K "is_int" "is_int" s_is_int f_is_int d_is_int
  g_is_int : mg "is_int" = some (.ref f_is_int)
  b_is_int : Binds K d_is_int ["thing"] []
  f_is_number : Addr
  d_is_number : FuncData
  F_is_number : Fun K "is_number" "is_number" s_is_number f_is_number d_is_number
  g_is_number : mg "is_number" = some (.ref f_is_number)
  b_is_number : Binds K d_is_number ["thing"] []
  f_is_text : Addr
  d_is_text : FuncData
  F_is_text : Fun K "is_text" "is_text" s_is_text f_is_text d_is_text
  g_is_text : mg "is_text" = some (.ref f_is_text)
  b_is_text : Binds K d_is_text ["thing"] []
  f__is_sign : Addr
  d__is_sign : FuncData
  F__is_sign : Fun K "_is_sign" "_is_sign" s__is_sign f__is_sign d__is_sign
  g__is_sign : mg "_is_sign" = some (.ref f__is_sign)
  b__is_sign : Binds K d__is_sign ["sign"] []
  f_is_below : Addr
  d_is_below : FuncData
  F_is_below : Fun K "is_below" "is_below" s_is_below f_is_below d_is_below
  g_is_below : mg "is_below" = some (.ref f_is_below)
  b_is_below : Binds K d_is_below ["thing", "bound"] []
  f_are_below : Addr
  d_are_below : FuncData
  F_are_below : Fun K "are_below" "are_below" s_are_below f_are_below d_are_below
  g_are_below : mg "are_below" = some (.ref f_are_below)
  b_are_below : Binds K d_are_below ["thing", "bound"] []
  f_ask_row : Addr
  d_ask_row : FuncData
  F_ask_row : Fun K "ask_row" "ask_row" s_ask_row f_ask_row d_ask_row
  g_ask_row : mg "ask_row" = some (.ref f_ask_row)
  b_ask_row : Binds K d_ask_row ["tokens", "row"] []
  f_ask_text : Addr
  d_ask_text : FuncData
  F_ask_text : Fun K "ask_text" "ask_text" s_ask_text f_ask_text d_ask_text
  g_ask_text : mg "ask_text" = some (.ref f_ask_text)
  b_ask_text : Binds K d_ask_text ["text"] []
  f_by_length : Addr
  d_by_length : FuncData
  F_by_length : Fun K "by_length" "by_length" s_by_length f_by_length d_by_length
  g_by_length : mg "by_length" = some (.ref f_by_length)
  b_by_length : Binds K d_by_length ["things"] []
  f_inner_texts : Addr
  d_inner_texts : FuncData
  F_inner_texts : Fun K "inner_texts" "inner_texts" s_inner_texts f_inner_texts d_inner_texts
  g_inner_texts : mg "inner_texts" = some (.ref f_inner_texts)
  b_inner_texts : Binds K d_inner_texts ["tokens"] []
  f_token_number : Addr
  d_token_number : FuncData
  F_token_number : Fun K "token_number" "token_number" s_token_number f_token_number d_token_number
  g_token_number : mg "token_number" = some (.ref f_token_number)
  b_token_number : Binds K d_token_number ["tokens", "text"] []
  f_token_numbers : Addr
  d_token_numbers : FuncData
  F_token_numbers : Fun K "token_numbers" "token_numbers" s_token_numbers f_token_numbers d_token_numbers
  g_token_numbers : mg "token_numbers" = some (.ref f_token_numbers)
  b_token_numbers : Binds K d_token_numbers ["tokens"] []
  f_row_text : Addr
  d_row_text : FuncData
  F_row_text : Fun K "row_text" "row_text" s_row_text f_row_text d_row_text
  g_row_text : mg "row_text" = some (.ref f_row_text)
  b_row_text : Binds K d_row_text ["tokens", "row"] []
  f_joined : Addr
  d_joined : FuncData
  F_joined : Fun K "joined" "joined" s_joined f_joined d_joined
  g_joined : mg "joined" = some (.ref f_joined)
  b_joined : Binds K d_joined ["tokens", "row"] []
  f__law_pool : Addr
  d__law_pool : FuncData
  F__law_pool : Fun K "_law_pool" "_law_pool" s__law_pool f__law_pool d__law_pool
  g__law_pool : mg "_law_pool" = some (.ref f__law_pool)
  b__law_pool : Binds K d__law_pool ["script"] []
  f__law_pick : Addr
  d__law_pick : FuncData
  F__law_pick : Fun K "_law_pick" "_law_pick" s__law_pick f__law_pick d__law_pick
  g__law_pick : mg "_law_pick" = some (.ref f__law_pick)
  b__law_pick : Binds K d__law_pick ["pool", "many"] []
  f__law_all : Addr
  d__law_all : FuncData
  F__law_all : Fun K "_law_all" "_law_all" s__law_all f__law_all d__law_all
  g__law_all : mg "_law_all" = some (.ref f__law_all)
  b__law_all : Binds K d__law_all [] []
  f__law_same : Addr
  d__law_same : FuncData
  F__law_same : Fun K "_law_same" "_law_same" s__law_same f__law_same d__law_same
  g__law_same : mg "_law_same" = some (.ref f__law_same)
  b__law_same : Binds K d__law_same ["told", "due"] []
  f__law_word : Addr
  d__law_word : FuncData
  F__law_word : Fun K "_law_word" "_law_word" s__law_word f__law_word d__law_word
  g__law_word : mg "_law_word" = some (.ref f__law_word)
  b__law_word : Binds K d__law_word ["pool", "signs", "most"] []
  f__law_tokens : Addr
  d__law_tokens : FuncData
  F__law_tokens : Fun K "_law_tokens" "_law_tokens" s__law_tokens f__law_tokens d__law_tokens
  g__law_tokens : mg "_law_tokens" = some (.ref f__law_tokens)
  b__law_tokens : Binds K d__law_tokens ["pool", "many", "signs", "most"] []
  f__law_drawn_tokens : Addr
  d__law_drawn_tokens : FuncData
  F__law_drawn_tokens : Fun K "_law_drawn_tokens" "_law_drawn_tokens" s__law_drawn_tokens f__law_drawn_tokens d__law_drawn_tokens
  g__law_drawn_tokens : mg "_law_drawn_tokens" = some (.ref f__law_drawn_tokens)
  b__law_drawn_tokens : Binds K d__law_drawn_tokens ["pool"] []
  f__law_inner : Addr
  d__law_inner : FuncData
  F__law_inner : Fun K "_law_inner" "_law_inner" s__law_inner f__law_inner d__law_inner
  g__law_inner : mg "_law_inner" = some (.ref f__law_inner)
  b__law_inner : Binds K d__law_inner ["tokens"] []
  f__law_number : Addr
  d__law_number : FuncData
  F__law_number : Fun K "_law_number" "_law_number" s__law_number f__law_number d__law_number
  g__law_number : mg "_law_number" = some (.ref f__law_number)
  b__law_number : Binds K d__law_number ["tokens", "text"] []
  f__law_number_told : Addr
  d__law_number_told : FuncData
  F__law_number_told : Fun K "_law_number_told" "_law_number_told" s__law_number_told f__law_number_told d__law_number_told
  g__law_number_told : mg "_law_number_told" = some (.ref f__law_number_told)
  b__law_number_told : Binds K d__law_number_told ["tokens", "text", "named"] []
  f__law_text_told : Addr
  d__law_text_told : FuncData
  F__law_text_told : Fun K "_law_text_told" "_law_text_told" s__law_text_told f__law_text_told d__law_text_told
  g__law_text_told : mg "_law_text_told" = some (.ref f__law_text_told)
  b__law_text_told : Binds K d__law_text_told ["tokens", "row", "named"] []
  f__law_letters : Addr
  d__law_letters : FuncData
  F__law_letters : Fun K "_law_letters" "_law_letters" s__law_letters f__law_letters d__law_letters
  g__law_letters : mg "_law_letters" = some (.ref f__law_letters)
  b__law_letters : Binds K d__law_letters ["tokens", "row"] []
  f__law_rows : Addr
  d__law_rows : FuncData
  F__law_rows : Fun K "_law_rows" "_law_rows" s__law_rows f__law_rows d__law_rows
  g__law_rows : mg "_law_rows" = some (.ref f__law_rows)
  b__law_rows : Binds K d__law_rows ["m", "most"] []
  f__law_texts_right : Addr
  d__law_texts_right : FuncData
  F__law_texts_right : Fun K "_law_texts_right" "_law_texts_right" s__law_texts_right f__law_texts_right d__law_texts_right
  g__law_texts_right : mg "_law_texts_right" = some (.ref f__law_texts_right)
  b__law_texts_right : Binds K d__law_texts_right ["pool", "tokens"] []
  f__law_rows_right : Addr
  d__law_rows_right : FuncData
  F__law_rows_right : Fun K "_law_rows_right" "_law_rows_right" s__law_rows_right f__law_rows_right d__law_rows_right
  g__law_rows_right : mg "_law_rows_right" = some (.ref f__law_rows_right)
  b__law_rows_right : Binds K d__law_rows_right ["pool", "tokens"] []
  f_law : Addr
  d_law : FuncData
  F_law : Fun K "law" "law" s_law f_law d_law
  g_law : mg "law" = some (.ref f_law)
  b_law : Binds K d_law ["script"] []
  k_token_number : KBn K d_token_number ["tokens", "text"] 0 ["text", "tokens"] (fun _ ws => kw_token_number ws) (fun _ zs => kw_token_number zs)
  k_row_text : KBn K d_row_text ["tokens", "row"] 0 ["row", "tokens"] (fun _ ws => kw_row_text ws) (fun _ zs => kw_row_text zs)
  k_inner_texts : KBn K d_inner_texts ["tokens"] 0 ["tokens"] (fun _ ws => kw_inner_texts ws) (fun _ zs => kw_inner_texts zs)
  c__PERCENT : ∃ t, mg "_PERCENT" = some (.int (37) t)
  c_ROW_LIMIT : ∃ t, mg "ROW_LIMIT" = some (.int (60) t)
  c_TEXT_LIMIT : ∃ t, mg "TEXT_LIMIT" = some (.int (1200) t)
  n_all : mg "all" = none
  n_bool : mg "bool" = none
  n_enumerate : mg "enumerate" = none
  n_int : mg "int" = none
  n_isinstance : mg "isinstance" = none
  n_len : mg "len" = none
  n_list : mg "list" = none
  n_ord : mg "ord" = none
  n_range : mg "range" = none
  n_sorted : mg "sorted" = none
  n_str : mg "str" = none
  n_tuple : mg "tuple" = none
  n_zip : mg "zip" = none
  C_NotUsable : Addr
  I_NotUsable : Addr
  nus : PySem.NUsX.NUsTxt K mg C_NotUsable I_NotUsable
end K1
set_option Elab.async false
set_option linter.all false
set_option maxRecDepth 100000
set_option maxHeartbeats 2000000
namespace K1
open PySem PySem.Spec PyProof.Rows L2 Ver
section
variable {P : Program} {w : World} {K : PySem.W.Frag} {mg : Str → Option Value} {base : Heap}
def isIntD : PyData → Bool | .int _ => true | _ => false
def numD : PyData → Bool | .int i => decide (0 ≤ i) | _ => false
def belowD (b : Int) : PyData → Bool | .int i => decide (0 ≤ i) && decide (i < b) | _ => false
def allBelow (b : Int) : PyData → Bool | .tuple ds => ds.all (belowD b) | _ => false
def rowD (n : Nat) : PyData → Bool | .tuple ds => ds.all (belowD n) && decide (ds.length ≤ 60) | _ => false
def lenD : PyData → Nat | .tuple ds => ds.length | .list ds => ds.length | _ => 0
def shortD : PyData → Bool | .int i => decide (0 ≤ i) && decide (i ≤ 60) | _ => false
def Refuses (C : Addr) (E : XK) (H : Hp) (z : Str) : Prop := ∀ H' dd, Same H H' → H' dd = none → E (.ref C) (some dd) (upd H' dd (.xd [("word", .str z)]))

def sp_is_int (K : PySem.W.Frag) : Sp := fun vs H Q _ => ∃ x d, vs = [x] ∧ Dp K H x d ∧ Q (.bl (isIntD d)) H
theorem ok_is_int (T : Tx K mg) : FnOk P w K mg base CX0 1 T.f_is_int T.d_is_int ["thing"] (sp_is_int K) := by
  refine T.F_is_int.ok sc_is_int (fun vs H Q E h => ?_) (fun cdv A outer s H vs Q E hr h => ?_)
  · obtain ⟨x, d, rfl, _⟩ := h; rfl
  · obtain ⟨x, d, rfl, hd, q⟩ := h
    refine ⟨_, (pss_one (ps_ret (pe_and (pe_callB (cr_isiD (n := "int") (by decide)) (by rfl) T.n_isinstance (by decide +kernel) (pa_cons (pv 0) (pa_cons (pe_bltn (v := .ty "int") (by rfl) T.n_int (by decide +kernel) rfl) pa_nil))) (pe_one (pe_not (pe_callB (cr_isiD (n := "bool") (by decide)) (by rfl) T.n_isinstance (by decide +kernel) (pa_cons (pv 0) (pa_cons (pe_bltn (v := .ty "bool") (by rfl) T.n_bool (by decide +kernel) rfl) pa_nil)))))))), ?_⟩
    refine ⟨x, rfl, x, d, rfl, hd, _, rfl, ?_⟩
    rw [isa_int]
    cases d
    case int i => exact ⟨x, rfl, x, .int i, rfl, hd, _, rfl, q⟩
    case bool b => exact ⟨x, rfl, x, .bool b, rfl, hd, _, rfl, q⟩
    all_goals exact q

def sp_is_number (K : PySem.W.Frag) : Sp := fun vs H Q _ => ∃ x d, vs = [x] ∧ Dp K H x d ∧ Q (.bl (numD d)) H
theorem ok_is_number (T : Tx K mg) : FnOk P w K mg base CX0 2 T.f_is_number T.d_is_number ["thing"] (sp_is_number K) := by
  refine T.F_is_number.ok sc_is_number (fun vs H Q E h => ?_) (fun cdv A outer s H vs Q E hr h => ?_)
  · obtain ⟨x, d, rfl, _⟩ := h; rfl
  · obtain ⟨x, d, rfl, hd, q⟩ := h
    refine ⟨_, (pss_one (ps_ret (pe_and (pe_call (ok_is_int T) hr rfl T.g_is_int T.F_is_int.kp T.b_is_int .nil pass0 (pa_cons (pv 0) pa_nil)) (pe_one (pe_cmpR op_ge (pv 0) pe_int (nomark _)))))), ?_⟩
    refine ⟨x, rfl, x, d, rfl, hd, _, rfl, ?_⟩
    cases d
    case int i =>
      cases hd
      exact ⟨.int i, rfl, i, 0, rfl, rfl, q⟩
    all_goals exact q

def sp_is_below (K : PySem.W.Frag) : Sp := fun vs H Q _ => ∃ x d b, vs = [x, .int b] ∧ Dp K H x d ∧ Q (.bl (belowD b d)) H
theorem ok_is_below (T : Tx K mg) : FnOk P w K mg base CX0 3 T.f_is_below T.d_is_below ["thing", "bound"] (sp_is_below K) := by
  refine T.F_is_below.ok sc_is_below (fun vs H Q E h => ?_) (fun cdv A outer s H vs Q E hr h => ?_)
  · obtain ⟨x, d, b, rfl, _⟩ := h; rfl
  · obtain ⟨x, d, b, rfl, hd, q⟩ := h
    refine ⟨_, (pss_one (ps_ret (pe_and (pe_call (ok_is_number T) hr rfl T.g_is_number T.F_is_number.kp T.b_is_number .nil pass0 (pa_cons (pv 0) pa_nil)) (pe_one (pe_cmpR op_lt (pv 0) (pv 1) (nomark _)))))), ?_⟩
    refine ⟨x, rfl, x, d, rfl, hd, _, rfl, ?_⟩
    cases d
    case int i =>
      cases hd
      show if decide (0 ≤ i) = true then _ else _
      refine ite2 (fun e => ⟨.int i, rfl, .int b, rfl, i, b, rfl, rfl, ?_⟩) (fun e => ?_)
      · have q' : Q (.bl (decide (0 ≤ i) && decide (i < b))) H := q
        rw [e, Bool.true_and] at q'
        exact q'
      · have q' : Q (.bl (decide (0 ≤ i) && decide (i < b))) H := q
        rw [Bool.eq_false_iff.mpr e, Bool.false_and] at q'
        exact q'
    all_goals exact q

def sp_are_below (K : PySem.W.Frag) : Sp := fun vs H Q _ => ∃ x d b, vs = [x, .int b] ∧ Dp K H x d ∧ lenD d ≤ 1000 ∧ ∀ H', Same H H' → Q (.bl (allBelow b d)) H'
theorem ok_are_below (T : Tx K mg) : FnOk P w K mg base CX0 4 T.f_are_below T.d_are_below ["thing", "bound"] (sp_are_below K) := by
  refine T.F_are_below.ok sc_are_below (fun vs H Q E h => ?_) (fun cdv A outer s H vs Q E hr h => ?_)
  · obtain ⟨x, d, b, rfl, _⟩ := h; rfl
  · obtain ⟨x, d, b, rfl, hd, hz, q⟩ := h
    refine ⟨_, (pss_one (ps_ret (pe_and (pe_callB (cr_isiD (n := "tuple") (by decide)) (by rfl) T.n_isinstance (by decide +kernel) (pa_cons (pv 0) (pa_cons (pe_bltn (v := .ty "tuple") (by rfl) T.n_tuple (by decide +kernel) rfl) pa_nil))) (pe_one (pe_callB (cr_all rfl) (by rfl) T.n_all (by decide +kernel) (pa_cons (pe_lc (own := [("part", 2)]) (g := gName 2) (tt := tYes) (by rfl) sc_are_below.nd (pi_tup (pv 0)) (blkOk_by (N := ["thing", "bound", "part"]) (sc := defScope s_are_below) (by decide +kernel)) (fun _ _ _ _ _ => (pg_name (i := 2) sc_are_below.nd rfl (Or.inl rfl))) (fun _ _ _ _ _ => pts_nil) (fun _ _ _ _ _ => (pe_call (ok_is_below T) hr rfl T.g_is_below T.F_is_below.kp T.b_is_below .nil pass0 (pa_cons (pv 2) (pa_cons (pv 1) pa_nil))))) pa_nil)))))), ?_⟩
    refine ⟨x, rfl, x, d, rfl, hd, _, rfl, ?_⟩
    rw [isa_tuple]
    cases d
    case tuple ds =>
      obtain ⟨a, xs, rfl, hs, ha⟩ : ∃ a xs, x = .ref a ∧ SqT K H a xs ∧ DpAll K H xs ds := by
        cases hd with
        | tup hs ha => exact ⟨_, _, rfl, hs, ha⟩
      refine ⟨.ref a, rfl, a, rfl, ⟨_, hs⟩, fun D nD => ?_⟩
      have sm : Same H (upd H D (.lst [])) := same_new nD
      refine comp_tup (K := K) (a := a) (xs := xs) (i := 2) (fun acc H' => Same H H' ∧ acc = ((ds.take acc.length).map fun d => V.bl (belowD b d))) ⟨sm, rfl⟩ (fun acc H' h => seqT_grow h.1 hs) (fun acc y H' e h hD => ?_) (fun acc H' e h hD => ?_)
      · obtain ⟨d', e', hd'⟩ := dpAll_get ha e
        refine ⟨y, rfl, .int b, rfl, y, d', b, rfl, dp_grow h.1 hd', ?_⟩
        have lt : acc.length < xs.length := (List.getElem?_eq_some_iff.mp e).1
        refine turned hD (small (by have h1 := dpAll_len ha; have h2 : ds.length ≤ 1000 := hz; omega)) ⟨fun c o ec => ?_, ?_⟩
        · rw [upd_ne (ne_of_none ec nD)]
          exact h.1 c o ec
        · rw [List.length_append, List.length_singleton, List.take_add_one, e', List.map_append, ← h.2]
          rfl
      · refine ⟨D, (ds.map (belowD b)), rfl, .inl (.inl ?_), ?_⟩
        · rw [hD, h.2, e, dpAll_len ha, List.take_length, List.map_map]
          rfl
        · have e2 : (ds.map (belowD b)).all id = ds.all (belowD b) := by rw [List.all_map]; rfl
          rw [e2]
          exact q H' h.1
    all_goals exact q H (Same.refl H)

def sp_ask_row (K : PySem.W.Frag) (C : Addr) : Sp := fun vs H Q E => ∃ t ts x d, vs = [.ref t, x] ∧ SqT K H t ts ∧ Dp K H x d ∧ lenD d ≤ 1000 ∧ (rowD ts.length d = true → ∀ H', Same H H' → Q .non H') ∧ (rowD ts.length d = false → Refuses C E H "row")
theorem ok_ask_row (T : Tx K mg) : FnOk P w K mg base (L2.CX P w) 5 T.f_ask_row T.d_ask_row ["tokens", "row"] (sp_ask_row K T.C_NotUsable) := by
  refine T.F_ask_row.okX sc_ask_row (fun vs H Q E h => ?_) (fun cdv A outer s H vs Q E hr h => ?_)
  · obtain ⟨t, ts, x, d, rfl, _⟩ := h; rfl
  · obtain ⟨t, ts, x, d, rfl, hT, hd, hz, q1, q2⟩ := h
    refine ⟨_, (pss_one (ps_if (PW.pt (pw_or (pt_not (pt_val (pe_call (ok_are_below T) hr rfl T.g_are_below T.F_are_below.kp T.b_are_below .nil pass0 (pa_cons (pv 1) (pa_cons (pe_callB call_len_seq (by rfl) T.n_len (by decide +kernel) (pa_cons (pv 0) pa_nil)) pa_nil))))) (pw_or1 (pt_cmpR op_gt (pe_callB call_len_seq (by rfl) T.n_len (by decide +kernel) (pa_cons (pv 1) pa_nil)) (pe_glob (v := .int (60)) rfl T.c_ROW_LIMIT.choose_spec ⟨_, rfl⟩) (nomark _))))) (pss_one (ps_raiseNus rfl T.nus hr (takes_of rfl rfl rfl rfl) (pa_cons pe_str pa_nil))) pss_nil)), ?_⟩
    refine ⟨x, rfl, .ref t, rfl, t, ts, rfl, .inr hT, x, d, _, rfl, hd, hz, fun H' sm => ?_⟩
    refine ⟨_, rfl, ?_⟩
    have no : rowD ts.length d = false → ∀ H2, Same H H2 → ∀ dd, H2 dd = none → E (.ref T.C_NotUsable) (some dd) (upd H2 dd (.xd [("word", .str "row")])) := fun e H2 s2 dd n => q2 e H2 dd s2 n
    cases d
    case tuple ds =>
      obtain ⟨a, xs, rfl, hs, ha⟩ : ∃ a xs, x = .ref a ∧ SqT K H a xs ∧ DpAll K H xs ds := by
        cases hd with
        | tup hs ha => exact ⟨_, _, rfl, hs, ha⟩
      have el := dpAll_len ha
      show if (!(ds.all (belowD ts.length))) = true then _ else _
      cases e : ds.all (belowD ts.length) with
      | false =>
        have er : rowD ts.length (.tuple ds) = false := by show (ds.all (belowD ts.length) && _) = false; rw [e]; rfl
        exact ⟨_, rfl, fun dd n => no er H' sm dd n⟩
      | true =>
        refine ⟨.ref a, rfl, a, xs, rfl, .inr (seqT_grow sm hs), xs.length, 60, rfl, rfl, _, rfl, ?_⟩
        by_cases h60 : xs.length ≤ 60
        · have er : rowD ts.length (.tuple ds) = true := by show (ds.all (belowD ts.length) && decide (ds.length ≤ 60)) = true; rw [e, ← el, decide_eq_true h60]; rfl
          rw [decide_eq_false (by omega)]
          exact q1 er H' sm
        · have er : rowD ts.length (.tuple ds) = false := by show (ds.all (belowD ts.length) && decide (ds.length ≤ 60)) = false; rw [e, ← el, decide_eq_false h60]; rfl
          rw [decide_eq_true (by omega)]
          exact ⟨_, rfl, fun dd n => no er H' sm dd n⟩
    all_goals exact ⟨_, rfl, fun dd n => no rfl H' sm dd n⟩
end
end K1
set_option Elab.async false
set_option linter.all false
set_option maxRecDepth 100000
set_option maxHeartbeats 2000000
namespace K1
open PySem PySem.Spec PyProof.Rows L2 Ver
def okD : Nat → PyData → Prop
  | n + 1, .tuple ds => ds.length ≤ 100000 ∧ ∀ e ∈ ds, okD n e
  | n + 1, .list ds => ds.length ≤ 100000 ∧ ∀ e ∈ ds, okD n e
  | _, .none => True
  | _, .bool _ => True
  | _, .int _ => True
  | _, .str _ => True
  | _, _ => False
section
variable {P : Program} {w : World} {K : PySem.W.Frag} {mg : Str → Option Value} {base : Heap}
def sp__law_same (n : Nat) (K : PySem.W.Frag) : Sp := fun vs H Q _ => ∃ x y d, vs = [x, y] ∧ Dp K H x d ∧ Dp K H y d ∧ okD n d ∧ ∀ H', Same H H' → Q (.bl true) H'
theorem ok__law_same (T : Tx K mg) : ∀ n, FnOk P w K mg base CX0 (n + 1) T.f__law_same T.d__law_same ["told", "due"] (sp__law_same n K)
  | 0 => by
    refine T.F__law_same.ok sc__law_same (fun vs H Q E h => ?_) (fun cdv A outer s H vs Q E hr h => ?_)
    · obtain ⟨x, y, d, rfl, _⟩ := h; rfl
    obtain ⟨x, y, d, rfl, hx, hy, ho, q⟩ := h
    refine ⟨_, (pss_cons (ps_if (pt_cmpR op_isN (pv 1) pe_non (nomark _)) (pss_one (ps_ret (pe_cmpR op_isN (pv 0) pe_non (nomark _)))) pss_nil)
    (pss_cons (ps_if (pt_val (pe_callB (cr_isiD (n := "bool") (by decide)) (by rfl) T.n_isinstance (by decide +kernel) (pa_cons (pv 1) (pa_cons (pe_bltn (v := .ty "bool") (by rfl) T.n_bool (by decide +kernel) rfl) pa_nil)))) (pss_one (ps_ret (pe_and (pe_callB (cr_isiD (n := "bool") (by decide)) (by rfl) T.n_isinstance (by decide +kernel) (pa_cons (pv 0) (pa_cons (pe_bltn (v := .ty "bool") (by rfl) T.n_bool (by decide +kernel) rfl) pa_nil))) (pe_one (pe_cmpR op_eq (pv 0) (pv 1) (nomark _)))))) pss_nil)
    (pss_cons (ps_if (pt_val (pe_callB (cr_isiD (n := "int") (by decide)) (by rfl) T.n_isinstance (by decide +kernel) (pa_cons (pv 1) (pa_cons (pe_bltn (v := .ty "int") (by rfl) T.n_int (by decide +kernel) rfl) pa_nil)))) (pss_one (ps_ret (pe_and (pe_callB (cr_isiD (n := "int") (by decide)) (by rfl) T.n_isinstance (by decide +kernel) (pa_cons (pv 0) (pa_cons (pe_bltn (v := .ty "int") (by rfl) T.n_int (by decide +kernel) rfl) pa_nil))) (pe_and (pe_not (pe_callB (cr_isiD (n := "bool") (by decide)) (by rfl) T.n_isinstance (by decide +kernel) (pa_cons (pv 0) (pa_cons (pe_bltn (v := .ty "bool") (by rfl) T.n_bool (by decide +kernel) rfl) pa_nil)))) (pe_one (pe_cmpR op_eq (pv 0) (pv 1) (nomark _))))))) pss_nil)
    (pss_cons (ps_if (pt_val (pe_callB (cr_isiD (n := "str") (by decide)) (by rfl) T.n_isinstance (by decide +kernel) (pa_cons (pv 1) (pa_cons (pe_bltn (v := .ty "str") (by rfl) T.n_str (by decide +kernel) rfl) pa_nil)))) (pss_one (ps_ret (pe_and (pe_callB (cr_isiD (n := "str") (by decide)) (by rfl) T.n_isinstance (by decide +kernel) (pa_cons (pv 0) (pa_cons (pe_bltn (v := .ty "str") (by rfl) T.n_str (by decide +kernel) rfl) pa_nil))) (pe_one (pe_cmpR op_eq (pv 0) (pv 1) (nomark _)))))) pss_nil)
    (pss_cons (ps_if (pt_val (pe_callB (cr_isiD (n := "tuple") (by decide)) (by rfl) T.n_isinstance (by decide +kernel) (pa_cons (pv 1) (pa_cons (pe_bltn (v := .ty "tuple") (by rfl) T.n_tuple (by decide +kernel) rfl) pa_nil)))) (pss_one (ps_if (PW.pt (pw_or (pt_not (pt_val (pe_callB (cr_isiD (n := "tuple") (by decide)) (by rfl) T.n_isinstance (by decide +kernel) (pa_cons (pv 0) (pa_cons (pe_bltn (v := .ty "tuple") (by rfl) T.n_tuple (by decide +kernel) rfl) pa_nil))))) (pw_or1 (pt_cmpR op_ne (pe_callB call_len_seq (by rfl) T.n_len (by decide +kernel) (pa_cons (pv 0) pa_nil)) (pe_callB call_len_seq (by rfl) T.n_len (by decide +kernel) (pa_cons (pv 1) pa_nil)) (nomark _))))) (pss_one (ps_ret pe_bl)) pss_nil)) (pss_one (ps_if (PW.pt (pw_or (pt_not (pt_val (pe_callB (cr_isiD (n := "list") (by decide)) (by rfl) T.n_isinstance (by decide +kernel) (pa_cons (pv 0) (pa_cons (pe_bltn (v := .ty "list") (by rfl) T.n_list (by decide +kernel) rfl) pa_nil))))) (pw_or1 (pt_cmpR op_ne (pe_callB call_len_seq (by rfl) T.n_len (by decide +kernel) (pa_cons (pv 0) pa_nil)) (pe_callB call_len_seq (by rfl) T.n_len (by decide +kernel) (pa_cons (pv 1) pa_nil)) (nomark _))))) (pss_one (ps_ret pe_bl)) pss_nil)))
    (pss_cons ps_never
    (pss_one (ps_ret pe_bl)))))))), ?_⟩
    have q := q H (Same.refl H)
    refine ⟨y, rfl, rfl, _, rfl, ?_⟩
    cases d
    case none =>
      cases hx
      cases hy
      exact ⟨.non, rfl, rfl, q⟩
    case bool b =>
      cases hx
      cases hy
      refine ⟨.bl b, rfl, .bl b, .bool b, rfl, .bl b, _, rfl, ?_⟩
      refine ⟨.bl b, rfl, .bl b, .bool b, rfl, .bl b, _, rfl, ?_⟩
      refine ⟨.bl b, rfl, .bl b, rfl, rfl, ?_⟩
      rw [decide_eq_true rfl]
      exact q
    case int i =>
      cases hx
      cases hy
      refine ⟨.int i, rfl, .int i, .int i, rfl, .int i, _, rfl, ?_⟩
      refine ⟨.int i, rfl, .int i, .int i, rfl, .int i, _, rfl, ?_⟩
      refine ⟨.int i, rfl, .int i, .int i, rfl, .int i, _, rfl, ?_⟩
      refine ⟨.int i, rfl, .int i, .int i, rfl, .int i, _, rfl, _, rfl, ?_⟩
      refine ⟨.int i, rfl, .int i, rfl, rfl, ?_⟩
      rw [decide_eq_true rfl]
      exact q
    case str z =>
      cases hx
      cases hy
      refine ⟨.str z, rfl, .str z, .str z, rfl, .str z, _, rfl, ?_⟩
      refine ⟨.str z, rfl, .str z, .str z, rfl, .str z, _, rfl, ?_⟩
      refine ⟨.str z, rfl, .str z, .str z, rfl, .str z, _, rfl, ?_⟩
      refine ⟨.str z, rfl, .str z, .str z, rfl, .str z, _, rfl, ?_⟩
      refine ⟨.str z, rfl, .str z, rfl, rfl, ?_⟩
      rw [decide_eq_true rfl]
      exact q
    all_goals exact ho.elim
  | n + 1 => by
    have IH := ok__law_same T n
    refine T.F__law_same.ok sc__law_same (fun vs H Q E h => ?_) (fun cdv A outer s H vs Q E hr h => ?_)
    · obtain ⟨x, y, d, rfl, _⟩ := h; rfl
    obtain ⟨x, y, d, rfl, hx, hy, ho, q⟩ := h
    refine ⟨_, (pss_cons (ps_if (pt_cmpR op_isN (pv 1) pe_non (nomark _)) (pss_one (ps_ret (pe_cmpR op_isN (pv 0) pe_non (nomark _)))) pss_nil)
    (pss_cons (ps_if (pt_val (pe_callB (cr_isiD (n := "bool") (by decide)) (by rfl) T.n_isinstance (by decide +kernel) (pa_cons (pv 1) (pa_cons (pe_bltn (v := .ty "bool") (by rfl) T.n_bool (by decide +kernel) rfl) pa_nil)))) (pss_one (ps_ret (pe_and (pe_callB (cr_isiD (n := "bool") (by decide)) (by rfl) T.n_isinstance (by decide +kernel) (pa_cons (pv 0) (pa_cons (pe_bltn (v := .ty "bool") (by rfl) T.n_bool (by decide +kernel) rfl) pa_nil))) (pe_one (pe_cmpR op_eq (pv 0) (pv 1) (nomark _)))))) pss_nil)
    (pss_cons (ps_if (pt_val (pe_callB (cr_isiD (n := "int") (by decide)) (by rfl) T.n_isinstance (by decide +kernel) (pa_cons (pv 1) (pa_cons (pe_bltn (v := .ty "int") (by rfl) T.n_int (by decide +kernel) rfl) pa_nil)))) (pss_one (ps_ret (pe_and (pe_callB (cr_isiD (n := "int") (by decide)) (by rfl) T.n_isinstance (by decide +kernel) (pa_cons (pv 0) (pa_cons (pe_bltn (v := .ty "int") (by rfl) T.n_int (by decide +kernel) rfl) pa_nil))) (pe_and (pe_not (pe_callB (cr_isiD (n := "bool") (by decide)) (by rfl) T.n_isinstance (by decide +kernel) (pa_cons (pv 0) (pa_cons (pe_bltn (v := .ty "bool") (by rfl) T.n_bool (by decide +kernel) rfl) pa_nil)))) (pe_one (pe_cmpR op_eq (pv 0) (pv 1) (nomark _))))))) pss_nil)
    (pss_cons (ps_if (pt_val (pe_callB (cr_isiD (n := "str") (by decide)) (by rfl) T.n_isinstance (by decide +kernel) (pa_cons (pv 1) (pa_cons (pe_bltn (v := .ty "str") (by rfl) T.n_str (by decide +kernel) rfl) pa_nil)))) (pss_one (ps_ret (pe_and (pe_callB (cr_isiD (n := "str") (by decide)) (by rfl) T.n_isinstance (by decide +kernel) (pa_cons (pv 0) (pa_cons (pe_bltn (v := .ty "str") (by rfl) T.n_str (by decide +kernel) rfl) pa_nil))) (pe_one (pe_cmpR op_eq (pv 0) (pv 1) (nomark _)))))) pss_nil)
    (pss_cons (ps_if (pt_val (pe_callB (cr_isiD (n := "tuple") (by decide)) (by rfl) T.n_isinstance (by decide +kernel) (pa_cons (pv 1) (pa_cons (pe_bltn (v := .ty "tuple") (by rfl) T.n_tuple (by decide +kernel) rfl) pa_nil)))) (pss_one (ps_if (PW.pt (pw_or (pt_not (pt_val (pe_callB (cr_isiD (n := "tuple") (by decide)) (by rfl) T.n_isinstance (by decide +kernel) (pa_cons (pv 0) (pa_cons (pe_bltn (v := .ty "tuple") (by rfl) T.n_tuple (by decide +kernel) rfl) pa_nil))))) (pw_or1 (pt_cmpR op_ne (pe_callB call_len_seq (by rfl) T.n_len (by decide +kernel) (pa_cons (pv 0) pa_nil)) (pe_callB call_len_seq (by rfl) T.n_len (by decide +kernel) (pa_cons (pv 1) pa_nil)) (nomark _))))) (pss_one (ps_ret pe_bl)) pss_nil)) (pss_one (ps_if (PW.pt (pw_or (pt_not (pt_val (pe_callB (cr_isiD (n := "list") (by decide)) (by rfl) T.n_isinstance (by decide +kernel) (pa_cons (pv 0) (pa_cons (pe_bltn (v := .ty "list") (by rfl) T.n_list (by decide +kernel) rfl) pa_nil))))) (pw_or1 (pt_cmpR op_ne (pe_callB call_len_seq (by rfl) T.n_len (by decide +kernel) (pa_cons (pv 0) pa_nil)) (pe_callB call_len_seq (by rfl) T.n_len (by decide +kernel) (pa_cons (pv 1) pa_nil)) (nomark _))))) (pss_one (ps_ret pe_bl)) pss_nil)))
    (pss_cons (ps_for PassesOwn.never rfl (RZ.pi_zipA (by rfl) T.n_zip (pa_cons (pv 0) (pa_cons (pv 1) pa_nil))) (pg_tup (by rfl) (pgs_cons (pg_name (i := 2) sc__law_same.nd rfl (Or.inl rfl)) (pgs_cons (pg_name (i := 3) sc__law_same.nd rfl (Or.inl rfl)) pgs_nil)))
    (pss_one (ps_if (pt_not (pt_val (pe_call IH hr rfl T.g__law_same T.F__law_same.kp T.b__law_same .nil pass0 (pa_cons (pv 2) (pa_cons (pv 3) pa_nil))))) (pss_one (ps_ret pe_bl)) pss_nil)))
    (pss_one (ps_ret pe_bl)))))))), ?_⟩
    have q0 := q H (Same.refl H)
    refine ⟨y, rfl, rfl, _, rfl, ?_⟩
    cases d
    case none =>
      cases hx
      cases hy
      exact ⟨.non, rfl, rfl, q0⟩
    case bool b =>
      cases hx
      cases hy
      refine ⟨.bl b, rfl, .bl b, .bool b, rfl, .bl b, _, rfl, ?_⟩
      refine ⟨.bl b, rfl, .bl b, .bool b, rfl, .bl b, _, rfl, ?_⟩
      refine ⟨.bl b, rfl, .bl b, rfl, rfl, ?_⟩
      rw [decide_eq_true rfl]
      exact q0
    case int i =>
      cases hx
      cases hy
      refine ⟨.int i, rfl, .int i, .int i, rfl, .int i, _, rfl, ?_⟩
      refine ⟨.int i, rfl, .int i, .int i, rfl, .int i, _, rfl, ?_⟩
      refine ⟨.int i, rfl, .int i, .int i, rfl, .int i, _, rfl, ?_⟩
      refine ⟨.int i, rfl, .int i, .int i, rfl, .int i, _, rfl, _, rfl, ?_⟩
      refine ⟨.int i, rfl, .int i, rfl, rfl, ?_⟩
      rw [decide_eq_true rfl]
      exact q0
    case str z =>
      cases hx
      cases hy
      refine ⟨.str z, rfl, .str z, .str z, rfl, .str z, _, rfl, ?_⟩
      refine ⟨.str z, rfl, .str z, .str z, rfl, .str z, _, rfl, ?_⟩
      refine ⟨.str z, rfl, .str z, .str z, rfl, .str z, _, rfl, ?_⟩
      refine ⟨.str z, rfl, .str z, .str z, rfl, .str z, _, rfl, ?_⟩
      refine ⟨.str z, rfl, .str z, rfl, rfl, ?_⟩
      rw [decide_eq_true rfl]
      exact q0
    case tuple ds =>
      obtain ⟨a, xs, rfl, hs, ha⟩ : ∃ a xs, x = .ref a ∧ SqT K H a xs ∧ DpAll K H xs ds := by
        cases hx with
        | tup hs ha => exact ⟨_, _, rfl, hs, ha⟩
      obtain ⟨b, ys, rfl, hs2, ha2⟩ : ∃ b ys, y = .ref b ∧ SqT K H b ys ∧ DpAll K H ys ds := by
        cases hy with
        | tup hs ha => exact ⟨_, _, rfl, hs, ha⟩
      obtain ⟨hl, hds⟩ := ho
      have el : xs.length = ys.length := (dpAll_len ha).trans (dpAll_len ha2).symm
      have hx' : Dp K H (.ref a) (.tuple ds) := .tup hs ha
      have hy' : Dp K H (.ref b) (.tuple ds) := .tup hs2 ha2
      refine ⟨.ref b, rfl, .ref b, _, rfl, hy', _, rfl, ?_⟩
      refine ⟨.ref b, rfl, .ref b, _, rfl, hy', _, rfl, ?_⟩
      refine ⟨.ref b, rfl, .ref b, _, rfl, hy', _, rfl, ?_⟩
      refine ⟨.ref b, rfl, .ref b, _, rfl, hy', _, rfl, ?_⟩
      refine ⟨.ref a, rfl, .ref a, _, rfl, hx', _, rfl, ?_⟩
      refine ⟨.ref a, rfl, a, xs, rfl, .inr hs, .ref b, rfl, b, ys, rfl, .inr hs2, rfl, _, rfl, ?_⟩
      rw [decide_eq_true (show V.int (xs.length : Int) = V.int (ys.length : Int) by rw [el])]
      refine ⟨.ref a, rfl, .ref b, rfl, a, b, xs, ys, rfl, .inr ⟨hs, hs2, ?_⟩⟩
      refine RZ.for_zipT (K := K) (a := a) (b := b) (xs := xs) (ys := ys) el (fun i σ H' => Same H H' ∧ ∃ y2 y3, σ = [some (.ref a), some (.ref b), y2, y3]) ⟨Same.refl H, none, none, rfl⟩ (fun i σ H' h => ⟨seqT_grow h.1 hs, seqT_grow h.1 hs2⟩)
        (fun i u v Tp σ H' eu ev h nT => ?_) (fun σ H' h => q H' h.1)
      obtain ⟨sm, y2, y3, rfl⟩ := h
      refine ⟨Tp, [u, v], rfl, .inl (.inl upd_same), rfl, u, [v], rfl, v, [], rfl, rfl, ?_⟩
      have sT := same_new (o := .tup [u, v]) nT
      obtain ⟨e, ee, hu⟩ := dpAll_get ha eu
      obtain ⟨e', ee', hv⟩ := dpAll_get ha2 ev
      have eq : e = e' := Option.some.inj (ee.symm.trans ee')
      subst eq
      refine ⟨u, rfl, v, rfl, u, v, e, rfl, dp_grow (sm.trans sT) hu, dp_grow (sm.trans sT) hv, hds e (List.mem_of_getElem? ee), fun H2 s2 => ?_⟩
      exact ⟨_, rfl, (sm.trans sT).trans s2, some u, some v, rfl⟩
    case list ds =>
      obtain ⟨a, xs, rfl, hs, ha⟩ : ∃ a xs, x = .ref a ∧ SqL K H a xs ∧ DpAll K H xs ds := by
        cases hx with
        | lst hs ha => exact ⟨_, _, rfl, hs, ha⟩
      obtain ⟨b, ys, rfl, hs2, ha2⟩ : ∃ b ys, y = .ref b ∧ SqL K H b ys ∧ DpAll K H ys ds := by
        cases hy with
        | lst hs ha => exact ⟨_, _, rfl, hs, ha⟩
      obtain ⟨hl, hds⟩ := ho
      have el : xs.length = ys.length := (dpAll_len ha).trans (dpAll_len ha2).symm
      have hx' : Dp K H (.ref a) (.list ds) := .lst hs ha
      have hy' : Dp K H (.ref b) (.list ds) := .lst hs2 ha2
      refine ⟨.ref b, rfl, .ref b, _, rfl, hy', _, rfl, ?_⟩
      refine ⟨.ref b, rfl, .ref b, _, rfl, hy', _, rfl, ?_⟩
      refine ⟨.ref b, rfl, .ref b, _, rfl, hy', _, rfl, ?_⟩
      refine ⟨.ref b, rfl, .ref b, _, rfl, hy', _, rfl, ?_⟩
      refine ⟨.ref a, rfl, .ref a, _, rfl, hx', _, rfl, ?_⟩
      refine ⟨.ref a, rfl, a, xs, rfl, .inl hs, .ref b, rfl, b, ys, rfl, .inl hs2, rfl, _, rfl, ?_⟩
      rw [decide_eq_true (show V.int (xs.length : Int) = V.int (ys.length : Int) by rw [el])]
      refine ⟨.ref a, rfl, .ref b, rfl, a, b, xs, ys, rfl, .inl ⟨hs, hs2, ?_⟩⟩
      refine RZ.for_zipL (K := K) (a := a) (b := b) (xs := xs) (ys := ys) el (fun i σ H' => Same H H' ∧ ∃ y2 y3, σ = [some (.ref a), some (.ref b), y2, y3]) ⟨Same.refl H, none, none, rfl⟩ (fun i σ H' h => ⟨Same.seq h.1 hs, Same.seq h.1 hs2⟩)
        (fun i u v Tp σ H' eu ev h nT => ?_) (fun σ H' h => q H' h.1)
      obtain ⟨sm, y2, y3, rfl⟩ := h
      refine ⟨Tp, [u, v], rfl, .inl (.inl upd_same), rfl, u, [v], rfl, v, [], rfl, rfl, ?_⟩
      have sT := same_new (o := .tup [u, v]) nT
      obtain ⟨e, ee, hu⟩ := dpAll_get ha eu
      obtain ⟨e', ee', hv⟩ := dpAll_get ha2 ev
      have eq : e = e' := Option.some.inj (ee.symm.trans ee')
      subst eq
      refine ⟨u, rfl, v, rfl, u, v, e, rfl, dp_grow (sm.trans sT) hu, dp_grow (sm.trans sT) hv, hds e (List.mem_of_getElem? ee), fun H2 s2 => ?_⟩
      exact ⟨_, rfl, (sm.trans sT).trans s2, some u, some v, rfl⟩
    all_goals exact ho.elim
end
end K1
set_option Elab.async false
set_option linter.all false
set_option maxRecDepth 100000
set_option maxHeartbeats 2000000
namespace K1
open PySem PySem.Spec PyProof.Rows L2 Ver
section
variable {P : Program} {w : World} {K : PySem.W.Frag} {mg : Str → Option Value} {base : Heap}
def Pool (H : Hp) (p : Addr) : Prop := ∃ ns : List Int, ns ≠ [] ∧ ns.length ≤ 1000 ∧ H p = some (.lst (ns.map V.int))
def Drawn (p : Addr) (H H' : Hp) : Prop := (∀ b o, b ≠ p → H b = some o → H' b = some o) ∧ Pool H' p
theorem Drawn.refl {p : Addr} {H : Hp} (h : Pool H p) : Drawn p H H := ⟨fun _ _ _ e => e, h⟩
theorem Drawn.trans {p : Addr} {H H1 H2 : Hp} (a : Drawn p H H1) (b : Drawn p H1 H2) : Drawn p H H2 := ⟨fun c o h e => b.1 c o h (a.1 c o h e), b.2⟩
theorem Drawn.same {p : Addr} {H H1 H2 : Hp} (a : Drawn p H H1) (b : Same H1 H2) : Drawn p H H2 := ⟨fun c o h e => b c o (a.1 c o h e), by
  obtain ⟨ns, h1, h2, h3⟩ := a.2
  exact ⟨ns, h1, h2, b _ _ h3⟩⟩
theorem Drawn.at {p L : Addr} {H H1 : Hp} {o : HO} (a : Drawn p H H1) (nL : H L = none) (pL : p ≠ L) : Drawn p H (upd H1 L o) := ⟨fun b x h e => by
  rw [upd_ne (ne_of_none e nL)]
  exact a.1 b x h e, by
  obtain ⟨ns, h1, h2, h3⟩ := a.2
  exact ⟨ns, h1, h2, by rw [upd_ne pL]; exact h3⟩⟩
theorem Pool.same {p : Addr} {H H1 : Hp} (a : Pool H p) (b : Same H H1) : Pool H1 p := ((Drawn.refl a).same b).2
theorem set_ne {α : Type} {l : List α} {i : Nat} {x : α} (h : l ≠ []) : l.set i x ≠ [] := fun z => by
  have := congrArg List.length z
  rw [List.length_set] at this
  exact h (List.eq_nil_of_length_eq_zero this)
theorem atI_zero {xs : List V} {x : V} (h : xs[0]? = some x) : atI xs 0 = some x := atI_nat (j := 0) h
def sp__law_pick (K : PySem.W.Frag) : Sp := fun vs H Q _ => ∃ p m, vs = [.ref p, .int m] ∧ Pool H p ∧ 1 ≤ m ∧ m ≤ 1000000000 ∧ ∀ r H', 0 ≤ r → r < m → Drawn p H H' → (∀ b, H b = none → H' b = none) → Q (.int r) H'
theorem ok__law_pick (T : Tx K mg) : FnOk P w K mg base CX0 1 T.f__law_pick T.d__law_pick ["pool", "many"] (sp__law_pick K) := by
  refine T.F__law_pick.ok sc__law_pick (fun vs H Q E h => ?_) (fun cdv A outer s H vs Q E hr h => ?_)
  · obtain ⟨p, m, rfl, _⟩ := h; rfl
  · obtain ⟨p, m, rfl, ⟨ns, ne, hl, hp⟩, m0, m1, q⟩ := h
    refine ⟨_, (C8.pss_cut (ps_if (PW.pt (pw_and (pt_cmpR op_gt (pe_callB call_len_seq (by rfl) T.n_len (by decide +kernel) (pa_cons (pv 0) pa_nil)) pe_int (nomark _)) (pw_and1 (pt_cmpR op_eq (pe_ix ix_list (pv 0) (pe_un un_neg pe_int) (fun _ _ => rfl)) pe_int (nomark _))))) (pss_one (ps_expr (pe_bm0 PySem.F.plainAttrs_list PySem.F.slot_list_pop PySem.F.type_list_pop mt_pop (pv 0)))) pss_nil)
    (pss_cons (ps_if (pt_cmpR op_gt (pe_callB call_len_seq (by rfl) T.n_len (by decide +kernel) (pa_cons (pv 0) pa_nil)) pe_int (nomark _)) (pss_cons (ps_set (i := 2) sc__law_pick.nd rfl (Or.inl rfl) (pe_callTy call_int1 (by rfl) T.n_int (by decide +kernel) (pa_cons (pe_ix ix_list (pv 0) (pe_un un_neg pe_int) (fun _ _ => rfl)) pa_nil)))
    (pss_cons (ps_asg (pe_op op_fdivN (pv 2) (pv 1)) (pg_sub (pv 0) (pe_un un_neg pe_int) set_list))
    (pss_one (ps_ret (pe_op op_modN (pv 2) (pv 1)))))) pss_nil)
    (pss_cons (ps_asg (pe_op op_modN (pe_callTy call_int1 (by rfl) T.n_int (by decide +kernel) (pa_cons (pe_op op_mul (pe_ix ix_list (pv 0) pe_int (fun _ _ => rfl)) pe_int) pa_nil)) pe_int) (pg_sub (pv 0) pe_int set_list))
    (pss_one (ps_ret (pe_op op_modN (pe_callTy call_int1 (by rfl) T.n_int (by decide +kernel) (pa_cons (pe_op op_fdivN (pe_ix ix_list (pv 0) pe_int (fun _ _ => rfl)) pe_int) pa_nil)) (pv 1))))))), ?_⟩
    have fm : ∀ i : Int, 0 ≤ i.fmod m ∧ i.fmod m < m := fun i => ⟨Int.fmod_nonneg_of_pos _ (by omega), Int.fmod_lt_of_pos _ (by omega)⟩
    refine ⟨fun σ' H' => σ' = [some (.ref p), some (.int m), none] ∧ (∀ b, H b = none → H' b = none) ∧ (∀ b o, b ≠ p → H b = some o → H' b = some o) ∧ Pool H' p, ?_, fun σ' H1 h => ?_⟩
    · have stay : ([some (.ref p), some (.int m), none] : L2.St) = [some (.ref p), some (.int m), none] ∧ (∀ b, H b = none → H b = none) ∧ (∀ b o, b ≠ p → H b = some o → H b = some o) ∧ Pool H p := ⟨rfl, fun _ e => e, fun _ _ _ e => e, ⟨ns, ne, hl, hp⟩⟩
      refine ⟨.ref p, rfl, p, _, rfl, .inl (.inl (.inl hp)), _, _, rfl, rfl, _, rfl, ite2 (fun z => ?_) (fun z => stay)⟩
      have z1 := of_decide_eq_true z
      rw [List.length_map] at z1
      have e3 : ns = ns.dropLast ++ [ns.getLast ne] := (List.dropLast_concat_getLast ne).symm
      have el : atI (ns.map V.int) (-1) = some (.int (ns.getLast ne)) := by
        rw [show ns.map V.int = ns.dropLast.map V.int ++ [.int (ns.getLast ne)] by rw [← List.map_singleton, ← List.map_append, ← e3]]
        exact atI_last _ _
      refine ⟨.ref p, rfl, _, rfl, p, _, -1, _, rfl, rfl, .inl (.inl hp), el, rfl, _, rfl, ite2 (fun z2 => ?_) (fun z2 => stay)⟩
      refine ⟨.ref p, rfl, .inl ⟨rfl, _, .inl (.inl hp)⟩, p, _, .int (ns.getLast ne), rfl, rfl, hp, ?_, ?_⟩
      · rw [List.length_map, List.getElem?_map, ← List.getLast?_eq_getElem?, List.getLast?_eq_getLast ne]
        rfl
      · refine ⟨rfl, fun b e => ?_, fun b o hb e => ?_, ns.dropLast, ?_, ?_, ?_⟩
        · by_cases hb : b = p
          · rw [hb, hp] at e; cases e
          · rw [upd_ne hb]; exact e
        · rw [upd_ne hb]; exact e
        · intro z3
          have := congrArg List.length z3
          rw [List.length_dropLast, List.length_nil] at this
          omega
        · rw [List.length_dropLast]; omega
        · rw [upd_same, List.map_dropLast]
    · obtain ⟨rfl, hf, hk, ns, ne, hl, hp⟩ := h
      have back : ∀ {H2 : Hp} {ns2 : List Int}, ns2 ≠ [] → ns2.length ≤ 1000 → H2 = upd H1 p (.lst (ns2.map V.int)) → Drawn p H H2 ∧ ∀ b, H b = none → H2 b = none := fun {H2 ns2} n2 l2 e2 => by
        subst e2
        refine ⟨⟨fun b o hb e => ?_, ns2, n2, l2, upd_same⟩, fun b e => ?_⟩
        · rw [upd_ne hb]; exact hk b o hb e
        · have e1 := hf b e
          by_cases hb : b = p
          · rw [hb, hp] at e1; cases e1
          · rw [upd_ne hb]; exact e1
      refine ⟨.ref p, rfl, p, _, rfl, .inl (.inl (.inl hp)), _, _, rfl, rfl, _, rfl, ite2 (fun z => ?_) (fun z => ?_)⟩
      · have z1 := of_decide_eq_true z
        rw [List.length_map] at z1
        have e3 : ns = ns.dropLast ++ [ns.getLast ne] := (List.dropLast_concat_getLast ne).symm
        have el : atI (ns.map V.int) (-1) = some (.int (ns.getLast ne)) := by
          rw [show ns.map V.int = ns.dropLast.map V.int ++ [.int (ns.getLast ne)] by rw [← List.map_singleton, ← List.map_append, ← e3]]
          exact atI_last _ _
        have ix : ixN (ns.map V.int).length (-1) = some (ns.length - 1) := by
          unfold ixN
          rw [if_neg (by omega), if_pos (by rw [List.length_map]; omega), List.length_map]
          congr 1
          omega
        refine ⟨.ref p, rfl, _, rfl, p, _, -1, _, rfl, rfl, .inl (.inl hp), el, .inl ⟨_, rfl, ?_⟩⟩
        refine ⟨.int (ns.getLast ne), rfl, .int m, rfl, _, m, rfl, rfl, ⟨by omega, by omega⟩, ?_⟩
        refine ⟨.ref p, rfl, 1, rfl, p, _, -1, _, rfl, rfl, hp, ix, ?_⟩
        refine ⟨.int (ns.getLast ne), rfl, .int m, rfl, _, m, rfl, rfl, by omega, ?_⟩
        obtain ⟨f1, f2⟩ := fm (ns.getLast ne)
        obtain ⟨b1, b2⟩ := back (H2 := upd H1 p (.lst ((ns.map V.int).set (ns.length - 1) (.int ((ns.getLast ne).fdiv m))))) (ns2 := ns.set (ns.length - 1) ((ns.getLast ne).fdiv m)) (set_ne ne) (by rw [List.length_set]; exact hl) (by rw [List.map_set])
        exact q _ _ f1 f2 b1 b2
      · have e0 : ∃ x, ns[0]? = some x := by
          cases ns with
          | nil => exact absurd rfl ne
          | cons x r => exact ⟨x, rfl⟩
        obtain ⟨x0, ex0⟩ := e0
        have ex1 : (ns.map V.int)[0]? = some (.int x0) := by rw [List.getElem?_map, ex0]; rfl
        have pos : 0 < (ns.map V.int).length := by
          rw [List.length_map]
          cases ns with
          | nil => exact absurd rfl ne
          | cons x r => simp
        have ix : ixN (ns.map V.int).length 0 = some 0 := by
          unfold ixN
          rw [if_pos (by omega), if_pos (by omega)]
          rfl
        refine ⟨.ref p, rfl, p, _, 0, _, rfl, rfl, .inl (.inl hp), atI_zero ex1, _, _, rfl, rfl, .inr ⟨by omega, by omega⟩, .inl ⟨_, rfl, _, _, rfl, rfl, by omega, ?_⟩⟩
        have es : (ns.map V.int).set 0 (.int ((x0 * 69621).fmod 2305843009213693951)) = (ns.set 0 ((x0 * 69621).fmod 2305843009213693951)).map V.int := (List.map_set ..).symm
        have ex2 : ((ns.map V.int).set 0 (.int ((x0 * 69621).fmod 2305843009213693951)))[0]? = some (.int ((x0 * 69621).fmod 2305843009213693951)) := List.getElem?_set_self pos
        refine ⟨.ref p, rfl, p, _, 0, 0, rfl, rfl, hp, ix, ?_⟩
        refine ⟨.ref p, rfl, p, _, 0, _, rfl, rfl, .inl (.inl upd_same), atI_zero ex2, _, _, rfl, rfl, ⟨by omega, by omega⟩, .inl ⟨_, rfl, .int m, rfl, _, m, rfl, rfl, by omega, ?_⟩⟩
        obtain ⟨b1, b2⟩ := back (H2 := upd H1 p (.lst ((ns.map V.int).set 0 (.int ((x0 * 69621).fmod 2305843009213693951))))) (ns2 := ns.set 0 ((x0 * 69621).fmod 2305843009213693951)) (set_ne ne) (by rw [List.length_set]; exact hl) (by rw [es])
        obtain ⟨f1, f2⟩ := fm (((x0 * 69621).fmod 2305843009213693951).fdiv 32771)
        exact q _ _ f1 f2 b1 b2
end
end K1
set_option Elab.async false
set_option linter.all false
set_option maxRecDepth 100000
set_option maxHeartbeats 2000000
namespace K1
open PySem PySem.Spec PyProof.Rows L2 Ver
theorem seqT_drawn {K : PySem.W.Frag} {H H' : Hp} {p b : Addr} {xs : List V} (hp : Pool H p) (d : Drawn p H H') (h : SqT K H b xs) : SqT K H' b xs := by
  obtain ⟨ns, _, _, e⟩ := hp
  rcases h with (h | ⟨o, h⟩) | h
  · exact .inl (.inl (d.1 b _ (ne_of h e (by intro z; cases z)) h))
  · exact .inl (.inr ⟨o, d.1 b _ (ne_of h e (by intro z; cases z)) h⟩)
  · exact .inr h
theorem lst_drawn {H H' : Hp} {p b : Addr} {xs : List V} (d : Drawn p H H') (hb : b ≠ p) (h : H b = some (.lst xs)) : H' b = some (.lst xs) := d.1 b _ hb h
theorem Pool.ne_none {H : Hp} {p b : Addr} (hp : Pool H p) (h : H b = none) : p ≠ b := by
  obtain ⟨ns, _, _, e⟩ := hp
  exact ne_of_none e h
section
variable {P : Program} {w : World} {K : PySem.W.Frag} {mg : Str → Option Value} {base : Heap}
def sp__law_pool (K : PySem.W.Frag) : Sp := fun vs H Q _ => ∃ (a : Addr) (ns : List Int), vs = [.ref a] ∧ SqL K H a (ns.map V.int) ∧ ns.length ≤ 63 ∧ ∀ p H', Same H H' → Pool H' p → Q (.ref p) H'
theorem ok__law_pool (T : Tx K mg) : FnOk P w K mg base CX0 1 T.f__law_pool T.d__law_pool ["script"] (sp__law_pool K) := by
  refine T.F__law_pool.ok sc__law_pool (fun vs H Q E h => ?_) (fun cdv A outer s H vs Q E hr h => ?_)
  · obtain ⟨a, ns, rfl, _⟩ := h; rfl
  · obtain ⟨a, ns, rfl, hs, hz, q⟩ := h
    refine ⟨_, (pss_cons (ps_set (i := 1) sc__law_pool.nd rfl (Or.inl rfl) (pe_op op_mulW (pe_op op_mulW (pe_op op_mulW (pe_op op_pow pe_int pe_int) (pe_op op_pow pe_int pe_int)) (pe_op op_pow pe_int pe_int)) (pe_op op_pow pe_int pe_int)))
    (pss_cons (ps_set (i := 2) sc__law_pool.nd rfl (Or.inl rfl) (pe_lst (pa_cons pe_int pa_nil)))
    (pss_cons (ps_for PassesOwn.never rfl (pi_list (pv 0)) (pg_name (i := 3) sc__law_pool.nd rfl (Or.inl rfl))
    (pss_cons (ps_set (i := 4) sc__law_pool.nd rfl (Or.inl rfl) (pe_callTy call_int1 (by rfl) T.n_int (by decide +kernel) (pa_cons (pv 3) pa_nil)))
    (C8.pss_cut (ps_set (i := 5) sc__law_pool.nd rfl (Or.inl rfl) (pe_ifExp (pt_cmpR op_ge (pv 4) pe_int (nomark _)) (pv 4) (pe_op op_sub pe_int (pe_op op_mul pe_int (pv 4)))))
    (pss_cons (ps_asg (pe_op op_modN (pe_callTy call_int1 (by rfl) T.n_int (by decide +kernel) (pa_cons (pe_op op_add (pe_op op_add (pe_op op_mul (pe_ix ix_list (pv 2) pe_int (fun _ _ => rfl)) pe_int) (pe_op op_mul (pv 5) pe_int)) pe_int) pa_nil)) pe_int) (pg_sub (pv 2) pe_int set_list))
    (pss_one (ps_if (pt_cmpR op_ge (pv 5) (pe_op op_pow pe_int pe_int) (nomark _)) (pss_one (ps_expr (pe_bm PySem.F.plainAttrs_list PySem.F.slot_list_append PySem.F.type_list_append mt_append (pv 2) (pa_cons (pe_op op_modN (pe_callTy call_int1 (by rfl) T.n_int (by decide +kernel) (pa_cons (pv 5) pa_nil)) (pv 1)) pa_nil)))) pss_nil))))))
    (pss_one (ps_ret (pv 2)))))), ?_⟩
    refine ⟨_, _, rfl, rfl, ⟨by decide, by decide, by decide⟩, _, _, rfl, rfl, ⟨by decide, by decide, by decide⟩, _, _, rfl, rfl, by unfold CMulW; decide +kernel, ?_⟩
    refine ⟨_, _, rfl, rfl, ⟨by decide, by decide, by decide⟩, _, _, rfl, rfl, by unfold CMulW; decide +kernel, ?_⟩
    refine ⟨_, _, rfl, rfl, ⟨by decide, by decide, by decide⟩, _, _, rfl, rfl, by unfold CMulW; decide +kernel, ?_⟩
    refine ⟨small' (by simp), fun p np => ?_⟩
    refine ⟨.ref a, rfl, a, rfl, ⟨_, (same_new np).seq hs⟩, ?_⟩
    refine for_list (K := K) (a := a) (xs := ns.map V.int) (fun i σ H' => ∃ room y3 y4 y5 ms, σ = [some (.ref a), some (.int room), some (.ref p), y3, y4, y5] ∧ room ≠ 0 ∧ (∀ b o, H b = some o → H' b = some o) ∧ ms ≠ [] ∧ ms.length ≤ 1 + i ∧ H' p = some (.lst (List.map V.int ms)))
      ⟨_, none, none, none, [0], rfl, by decide +kernel, same_new np, by simp, by simp, upd_same⟩ (fun i σ H' _ h => ?_) (fun i x σ H' ex h => ?_) (fun σ H' h => ?_)
    · obtain ⟨_, _, _, _, _, _, _, sm, _⟩ := h
      exact Same.seq sm hs
    · obtain ⟨room, y3, y4, y5, ms, rfl, r0, sm, mn, ml, hp⟩ := h
      have lt : i < ns.length := by
        have := (List.getElem?_eq_some_iff.mp ex).1
        rw [List.length_map] at this
        exact this
      rw [List.getElem?_map] at ex
      obtain ⟨c, rfl⟩ : ∃ c, x = V.int c := by
        cases e : ns[i]? with
        | none => rw [e] at ex; cases ex
        | some c => rw [e] at ex; exact ⟨c, (Option.some.inj ex).symm⟩
      refine ⟨.int c, rfl, .inl ⟨c, rfl, ?_⟩⟩
      refine ⟨fun σ2 H2 => H2 = H' ∧ ∃ tn, σ2 = [some (.ref a), some (.int room), some (.ref p), some (.int c), some (.int c), some (.int tn)], ?_, fun σ2 H2 h2 => ?_⟩
      · refine ⟨.int c, rfl, c, 0, rfl, rfl, _, rfl, ite2 (fun z => ?_) (fun z => ?_)⟩
        · exact ⟨.int c, rfl, rfl, c, rfl⟩
        · exact ⟨.int c, rfl, _, _, rfl, rfl, .inl ⟨by omega, by omega⟩, _, _, rfl, rfl, rfl, _, rfl⟩
      obtain ⟨rfl, tn, rfl⟩ := h2
      obtain ⟨x0, ex0⟩ : ∃ x, ms[0]? = some x := by
        cases ms with
        | nil => exact absurd rfl mn
        | cons x r => exact ⟨x, rfl⟩
      have ex1 : (ms.map V.int)[0]? = some (.int x0) := by rw [List.getElem?_map, ex0]; rfl
      have pos : 0 < (ms.map V.int).length := by
        rw [List.length_map]
        cases ms with
        | nil => exact absurd rfl mn
        | cons x r => simp
      have ix : ixN (ms.map V.int).length 0 = some 0 := by
        unfold ixN
        rw [if_pos (by omega), if_pos (by omega)]
        rfl
      have npH : H p = none := np
      refine ⟨.ref p, rfl, p, _, 0, _, rfl, rfl, .inl (.inl hp), atI_zero ex1, _, _, rfl, rfl, .inr ⟨by omega, by omega⟩, .int tn, rfl, _, _, rfl, rfl, .inr ⟨by omega, by omega⟩, _, _, rfl, rfl, _, _, rfl, rfl, .inl ⟨_, rfl, _, _, rfl, rfl, by omega, ?_⟩⟩
      refine ⟨.ref p, rfl, p, _, 0, 0, rfl, rfl, hp, ix, ?_⟩
      refine ⟨.int tn, rfl, _, _, rfl, rfl, ⟨by decide, by decide, by decide⟩, tn, _, rfl, rfl, _, rfl, ite2 (fun z => ?_) (fun z => ?_)⟩
      · refine ⟨.ref p, rfl, .inl ⟨rfl, _, .inl (.inl upd_same)⟩, .int tn, rfl, .inl ⟨tn, rfl, .int room, rfl, tn, room, rfl, rfl, r0, ?_⟩⟩
        refine ⟨p, _, _, rfl, rfl, upd_same, small (by rw [List.length_set, List.length_map]; omega), ?_⟩
        refine ⟨room, some (.int c), some (.int c), some (.int tn), ms.set 0 ((x0 * 5038849 + tn * 86243 + 4421).fmod 2305843009213693951) ++ [tn.fmod room], rfl, r0, fun b o e => ?_, by simp, ?_, ?_⟩
        · have hb : b ≠ p := ne_of_none e npH
          rw [upd_ne hb, upd_ne hb]
          exact sm b o e
        · rw [List.length_append, List.length_set, List.length_singleton]; omega
        · rw [upd_same, List.map_append, List.map_set]
          rfl
      · refine ⟨room, some (.int c), some (.int c), some (.int tn), ms.set 0 ((x0 * 5038849 + tn * 86243 + 4421).fmod 2305843009213693951), rfl, r0, fun b o e => ?_, set_ne mn, ?_, ?_⟩
        · rw [upd_ne (ne_of_none e npH)]
          exact sm b o e
        · rw [List.length_set]; omega
        · rw [upd_same, List.map_set]
    · obtain ⟨room, y3, y4, y5, ms, rfl, r0, sm, mn, ml, hp⟩ := h
      rw [List.length_map] at ml
      exact ⟨.ref p, rfl, q p H' sm ⟨ms, mn, by omega, hp⟩⟩
end
end K1
set_option Elab.async false
set_option linter.all false
set_option maxRecDepth 100000
set_option maxHeartbeats 2000000
namespace K1
open PySem PySem.Spec PyProof.Rows L2 Ver
theorem Drawn.pool {p : Addr} {H H' : Hp} (d : Drawn p H H') : Pool H' p := d.2
theorem sign_at {sg : Str} {i : Int} (h0 : 0 ≤ i) (h1 : i < sg.length) : ∃ c, atI sg.cps.toList i = some c := by
  have lt : i.toNat < sg.cps.toList.length := by
    have e : sg.cps.toList.length = sg.length := by rw [Array.length_toList]; rfl
    omega
  have e0 : i = ((i.toNat : Nat) : Int) := by omega
  rw [e0]
  exact ⟨sg.cps.toList[i.toNat], atI_nat (j := i.toNat) (List.getElem?_eq_getElem lt)⟩
theorem flat_strs : ∀ ws : List Str, (ws.map V.str).all flatV = true
  | [] => rfl
  | _ :: ws => by rw [List.map_cons, List.all_cons, flat_strs ws]; rfl
def FromS (sg z : Str) : Prop := ∀ c ∈ z.cps.toList, c ∈ sg.cps.toList
theorem fromS_nil (sg : Str) : FromS sg "" := fun c hc => by
  have e : (Str.ofString "").cps.toList = [] := by rfl
  rw [e] at hc
  cases hc
theorem atI_mem {l : List Nat} {i : Int} {c : Nat} (h : atI l i = some c) : c ∈ l := by
  unfold atI at h
  obtain ⟨j, h1, h2⟩ := Option.bind_eq_some_iff.mp h
  exact List.mem_of_getElem? h2
theorem FromS.snoc {sg z : Str} {c : Nat} (h : FromS sg z) (hc : c ∈ sg.cps.toList) : FromS sg (z ++ ⟨#[c]⟩) := fun d hd => by
  have e : (z ++ ⟨#[c]⟩ : Str).cps.toList = z.cps.toList ++ [c] := TL.tl_append z ⟨#[c]⟩
  rw [e] at hd
  rcases List.mem_append.mp hd with q | q
  · exact h d q
  · rw [List.mem_singleton.mp q]
    exact hc
section
variable {P : Program} {w : World} {K : PySem.W.Frag} {mg : Str → Option Value} {base : Heap}
def sp__law_word (K : PySem.W.Frag) : Sp := fun vs H Q _ => ∃ (p : Addr) (sg : Str) (m : Int), vs = [.ref p, .str sg, .int m] ∧ Pool H p ∧ 1 ≤ sg.length ∧ sg.length ≤ 100 ∧ 1 ≤ m ∧ m ≤ 100 ∧
  ∀ (z : Str) H', 1 ≤ z.length → z.length ≤ m → FromS sg z → Drawn p H H' → (∀ b, H b = none → H' b = none) → Q (.str z) H'
theorem ok__law_word (T : Tx K mg) : FnOk P w K mg base CX0 2 T.f__law_word T.d__law_word ["pool", "signs", "most"] (sp__law_word K) := by
  refine T.F__law_word.ok sc__law_word (fun vs H Q E h => ?_) (fun cdv A outer s H vs Q E hr h => ?_)
  · obtain ⟨p, sg, m, rfl, _⟩ := h; rfl
  · obtain ⟨p, sg, m, rfl, hP, g0, g1, m0, m1, q⟩ := h
    refine ⟨_, (pss_cons (ps_set (i := 3) sc__law_word.nd rfl (Or.inl rfl) pe_str)
    (pss_cons (ps_for PassesOwn.never rfl (pi_range1 rfl T.n_range (pa_cons (pe_op op_add pe_int (pe_call (ok__law_pick T) hr rfl T.g__law_pick T.F__law_pick.kp T.b__law_pick .nil pass0 (pa_cons (pv 0) (pa_cons (pv 2) pa_nil)))) pa_nil)) (pg_name (i := 4) sc__law_word.nd rfl (Or.inl rfl))
    (pss_one (ps_set (i := 3) sc__law_word.nd rfl (Or.inl rfl) (pe_op op_add_str (pv 3) (pe_ix ix_str (pv 1) (pe_call (ok__law_pick T) hr rfl T.g__law_pick T.F__law_pick.kp T.b__law_pick .nil pass0 (pa_cons (pv 0) (pa_cons (pe_callB call_len (by rfl) T.n_len (by decide +kernel) (pa_cons (pv 1) pa_nil)) pa_nil))) (fun _ _ => rfl))))))
    (pss_one (ps_ret (pv 3))))), ?_⟩
    refine ⟨.ref p, rfl, .int m, rfl, p, m, rfl, hP, m0, by omega, fun r H1 r0 r1 d1 f1 => ⟨1, r, rfl, rfl, _, rfl, by omega, by omega, ?_⟩⟩
    refine for_range0 (n := (1 + r).toNat) (fun i σ H' => ∃ z y, σ = [some (.ref p), some (.str sg), some (.int m), some (.str z), y] ∧ z.length = i ∧ FromS sg z ∧ Drawn p H H' ∧ (∀ b, H b = none → H' b = none))
      ⟨_, none, rfl, rfl, fromS_nil sg, d1, f1⟩ (fun i σ H' lt h => ?_) (fun σ H' h => ?_)
    · obtain ⟨z, y, rfl, el, zs, d, f⟩ := h
      refine ⟨.str z, rfl, .str sg, rfl, .ref p, rfl, .str sg, rfl, .str sg, sg.length, rfl, ⟨small' (by omega), rfl⟩, p, sg.length, rfl, d.2, by omega, by omega, fun j H2 j0 j1 d2 f2 => ?_⟩
      obtain ⟨c, ec⟩ := sign_at j0 j1
      refine ⟨sg, j, c, rfl, rfl, small' (by omega), ec, z, _, rfl, rfl, small' (by show z.length + 1 ≤ 100000; omega), ?_⟩
      refine ⟨z ++ ⟨#[c]⟩, some (.int (i : Int)), rfl, ?_, zs.snoc (atI_mem ec), d.trans d2, fun b e => f2 b (f b e)⟩
      rw [Str.length_append, el]
      rfl
    · obtain ⟨z, y, rfl, el, zs, d, f⟩ := h
      exact ⟨.str z, rfl, q z H' (by omega) (by omega) zs d f⟩

def sp__law_tokens (K : PySem.W.Frag) : Sp := fun vs H Q _ => ∃ (p : Addr) (n : Int) (sg : Str) (m : Int), vs = [.ref p, .int n, .str sg, .int m] ∧ Pool H p ∧ 1 ≤ sg.length ∧ sg.length ≤ 100 ∧ 1 ≤ m ∧ m ≤ 100 ∧ 0 ≤ n ∧ n ≤ 100 ∧
  ∀ (t : Addr) (ts : List Str) H', (ts.length : Int) = n → (∀ z ∈ ts, 1 ≤ z.length ∧ (z.length : Int) ≤ m + n ∧ FromS sg z) → Drawn p H H' → H' t = some (.tup (ts.map V.str)) → Q (.ref t) H'
theorem ok__law_tokens (T : Tx K mg) : FnOk P w K mg base CX0 3 T.f__law_tokens T.d__law_tokens ["pool", "many", "signs", "most"] (sp__law_tokens K) := by
  refine T.F__law_tokens.ok sc__law_tokens (fun vs H Q E h => ?_) (fun cdv A outer s H vs Q E hr h => ?_)
  · obtain ⟨p, n, sg, m, rfl, _⟩ := h; rfl
  · obtain ⟨p, n, sg, m, rfl, hP, g0, g1, m0, m1, n0, n1, q⟩ := h
    refine ⟨_, (pss_cons (ps_set (i := 4) sc__law_tokens.nd rfl (Or.inl rfl) (pe_lst pa_nil))
    (pss_cons (ps_for PassesOwn.never rfl (pi_range1 rfl T.n_range (pa_cons (pv 1) pa_nil)) (pg_name (i := 5) sc__law_tokens.nd rfl (Or.inl rfl))
    (pss_cons (ps_set (i := 6) sc__law_tokens.nd rfl (Or.inl rfl) (pe_call (ok__law_word T) hr rfl T.g__law_word T.F__law_word.kp T.b__law_word .nil pass0 (pa_cons (pv 0) (pa_cons (pv 2) (pa_cons (pv 3) pa_nil)))))
    (pss_cons (ps_for PassesOwn.never rfl (pi_range1 rfl T.n_range (pa_cons (pv 1) pa_nil)) (pg_name (i := 7) sc__law_tokens.nd rfl (Or.inl rfl))
    (pss_one (ps_if (pt_cmpR op_in_seq (pv 6) (pv 4) (by rfl)) (pss_one (ps_set (i := 6) sc__law_tokens.nd rfl (Or.inl rfl) (pe_op op_add_str (pv 6) (pe_ix ix_str (pv 2) (pe_op op_sub (pv 7) (pe_op op_mul (pe_op op_fdivN (pv 7) (pe_callB call_len (by rfl) T.n_len (by decide +kernel) (pa_cons (pv 2) pa_nil))) (pe_callB call_len (by rfl) T.n_len (by decide +kernel) (pa_cons (pv 2) pa_nil)))) (fun _ _ => rfl))))) pss_nil)))
    (pss_one (ps_expr (pe_bm PySem.F.plainAttrs_list PySem.F.slot_list_append PySem.F.type_list_append mt_append (pv 4) (pa_cons (pv 6) pa_nil)))))))
    (pss_one (ps_ret (pe_callTy call_tuple_of (by rfl) T.n_tuple (by decide +kernel) (pa_cons (pv 4) pa_nil)))))), ?_⟩
    refine ⟨Nat.zero_le _, fun L nL => ?_⟩
    have pL : p ≠ L := hP.ne_none nL
    have s0 := same_new (o := .lst []) nL
    refine ⟨.int n, rfl, n, rfl, by omega, by omega, ?_⟩
    refine for_range0 (n := n.toNat) (fun i σ H' => ∃ ws y5 y6 y7, σ = [some (.ref p), some (.int n), some (.str sg), some (.int m), some (.ref L), y5, y6, y7] ∧ List.length ws = i ∧ (∀ z ∈ ws, 1 ≤ z.length ∧ (z.length : Int) ≤ m + n ∧ FromS sg z) ∧ Drawn p H H' ∧ H' L = some (.lst (List.map V.str ws)))
      ⟨[], none, none, none, rfl, rfl, (fun z hz => absurd hz (by simp)), (Drawn.refl hP).same s0, upd_same⟩ (fun i σ H' lt h => ?_) (fun σ H' h => ?_)
    · obtain ⟨ws, y5, y6, y7, rfl, el, hw, d, hL⟩ := h
      refine ⟨.ref p, rfl, .str sg, rfl, .int m, rfl, p, sg, m, rfl, d.2, g0, g1, m0, m1, fun z H1 z0 z1 zs d1 f1 => ?_⟩
      have hL1 : H1 L = some (.lst (ws.map V.str)) := d1.1 L _ pL.symm hL
      refine ⟨.int n, rfl, n, rfl, by omega, by omega, ?_⟩
      refine for_range0 (n := n.toNat) (fun j σ H2 => H2 = H1 ∧ ∃ z y7, σ = [some (.ref p), some (.int n), some (.str sg), some (.int m), some (.ref L), some (.int (i : Int)), some (.str z), y7] ∧ 1 ≤ z.length ∧ (z.length : Int) ≤ m + j ∧ FromS sg z) ⟨rfl, z, y7, rfl, z0, by omega, zs⟩ (fun j σ H2 lt2 h => ?_) (fun σ H2 h => ?_)
      · obtain ⟨rfl, z, y7, rfl, zn, zl, zs⟩ := h
        refine ⟨.str z, rfl, .ref L, rfl, L, _, rfl, .inl (.inl (.inl hL1)), rfl, flat_strs ws, _, rfl, ?_⟩
        cases eb : inV (.str z) (ws.map V.str) with
        | false => exact ⟨rfl, z, some (.int (j : Int)), rfl, zn, by omega, zs⟩
        | true =>
          have sg0 : ((sg.length : Nat) : Int) ≠ 0 := by omega
          have em := Int.fmod_def (j : Int) ((sg.length : Nat) : Int)
          have em2 : ((j : Int).fdiv ((sg.length : Nat) : Int)) * ((sg.length : Nat) : Int) = ((sg.length : Nat) : Int) * ((j : Int).fdiv ((sg.length : Nat) : Int)) := Int.mul_comm _ _
          have em0 := Int.fmod_nonneg_of_pos (j : Int) (b := ((sg.length : Nat) : Int)) (by omega)
          have em1 := Int.fmod_lt_of_pos (j : Int) (b := ((sg.length : Nat) : Int)) (by omega)
          obtain ⟨c, ec⟩ := sign_at (sg := sg) (i := (j : Int) - ((j : Int).fdiv ((sg.length : Nat) : Int)) * ((sg.length : Nat) : Int)) (by omega) (by omega)
          refine ⟨.str z, rfl, .str sg, rfl, .int (j : Int), rfl, .int (j : Int), rfl, .str sg, rfl, .str sg, sg.length, rfl, ⟨small' (by omega), rfl⟩, _, _, rfl, rfl, ⟨sg0, by omega⟩, ?_⟩
          refine ⟨.str sg, rfl, .str sg, sg.length, rfl, ⟨small' (by omega), rfl⟩, _, _, rfl, rfl, .inr ⟨by omega, by omega⟩, _, _, rfl, rfl, sg, _, c, rfl, rfl, small' (by omega), ec, z, _, rfl, rfl, small' (by show z.length + 1 ≤ 100000; omega), ?_⟩
          have e1 : (z ++ ⟨#[c]⟩ : Str).length = z.length + 1 := Str.length_append _ _
          exact ⟨rfl, z ++ ⟨#[c]⟩, some (.int (j : Int)), rfl, by rw [e1]; omega, by rw [e1]; omega, zs.snoc (atI_mem ec)⟩
      · obtain ⟨rfl, z, y7, rfl, zn, zl, zs⟩ := h
        refine ⟨.ref L, rfl, .inl ⟨rfl, _, .inl (.inl hL1)⟩, .str z, rfl, L, _, _, rfl, rfl, hL1, small (by rw [List.length_map]; omega), ?_⟩
        refine ⟨ws ++ [z], some (.int (i : Int)), some (.str z), y7, rfl, ?_, ?_, ?_, ?_⟩
        · rw [List.length_append, el]; rfl
        · intro y hy
          rcases List.mem_append.mp hy with q | q
          · exact hw y q
          · rw [List.mem_singleton.mp q]
            exact ⟨zn, by omega, zs⟩
        · exact (d.trans d1).at nL pL
        · rw [upd_same, List.map_append]; rfl
    · obtain ⟨ws, y5, y6, y7, rfl, el, hw, d, hL⟩ := h
      refine ⟨.ref L, rfl, L, _, rfl, .inl ⟨.inl (.inl hL), fun t nt => ?_⟩⟩
      refine q t ws _ (by omega) hw (d.same (same_new nt)) upd_same
end
end K1
set_option Elab.async false
set_option linter.all false
set_option maxRecDepth 100000
set_option maxHeartbeats 2000000
namespace K1
open PySem PySem.Spec PyProof.Rows L2 Ver
theorem rowD_ints {n : Nat} {d : PyData} (h : rowD n d = true) : ∃ r : List Int, d = .tuple (r.map PyData.int) ∧ ∀ t ∈ r, 0 ≤ t ∧ t < n := by
  cases d
  case tuple ds =>
    have h' : (ds.all (belowD n) && decide (ds.length ≤ 60)) = true := h
    rw [Bool.and_eq_true] at h'
    have key : ∀ ds : List PyData, ds.all (belowD n) = true → ∃ r : List Int, ds = r.map PyData.int ∧ ∀ t ∈ r, 0 ≤ t ∧ t < n := by
      intro ds
      induction ds with
      | nil => intro _; exact ⟨[], rfl, fun t ht => by simp at ht⟩
      | cons d ds ih =>
        intro e
        rw [List.all_cons, Bool.and_eq_true] at e
        obtain ⟨r, rfl, hr⟩ := ih e.2
        cases d
        case int i =>
          have e1 : (decide (0 ≤ i) && decide (i < (n : Int))) = true := e.1
          rw [Bool.and_eq_true, decide_eq_true_eq, decide_eq_true_eq] at e1
          refine ⟨i :: r, rfl, fun t ht => ?_⟩
          rcases List.mem_cons.mp ht with rfl | ht
          · exact e1
          · exact hr t ht
        all_goals exact absurd e.1 Bool.false_ne_true
    obtain ⟨r, e, hr⟩ := key ds h'.1
    exact ⟨r, by rw [e], hr⟩
  all_goals exact absurd h Bool.false_ne_true
theorem ints_of_dp {K : PySem.W.Frag} {H : Hp} : ∀ {r : List Int} {xs : List V}, DpAll K H xs (r.map PyData.int) → xs = r.map V.int
  | [], _, h => by cases h; rfl
  | t :: r, _, h => by
    cases h with
    | cons h1 h2 =>
      cases h1
      rw [ints_of_dp h2]
      rfl
def IsRow (_ : PySem.W.Frag) (H : Hp) (v : V) (r : List Int) : Prop := ∃ p, v = .ref p ∧ H p = some (.tup (r.map V.int))
abbrev Rows (K : PySem.W.Frag) (H : Hp) (vs : List V) (rs : List (List Int)) : Prop := Paired (IsRow K H) vs rs
theorem Rows.grow {K : PySem.W.Frag} {H H' : Hp} (e : Same H H') : ∀ {vs : List V} {rs : List (List Int)}, Rows K H vs rs → Rows K H' vs rs
  | _, _, .nil => .nil
  | _, _, .cons ⟨p, h1, h2⟩ t => .cons ⟨p, h1, e _ _ h2⟩ (Rows.grow e t)
theorem Rows.getT {K : PySem.W.Frag} {H : Hp} : ∀ {vs : List V} {rs : List (List Int)} {i : Nat} {r : List Int}, Rows K H vs rs → rs[i]? = some r → ∃ p, vs[i]? = some (.ref p) ∧ H p = some (.tup (r.map V.int))
  | _, _, i, r, .nil, e => by simp at e
  | _, _, 0, r, .cons ⟨p, h1, h2⟩ t, e => by
    have e' := Option.some.inj e
    subst e' h1
    exact ⟨p, rfl, h2⟩
  | _, _, i + 1, r, .cons _ t, e => Rows.getT (i := i) t e
theorem Rows.get {K : PySem.W.Frag} {H : Hp} {vs : List V} {rs : List (List Int)} {i : Nat} {r : List Int} (h : Rows K H vs rs) (e : rs[i]? = some r) : ∃ p, vs[i]? = some (.ref p) ∧ SqT K H p (r.map V.int) := by
  obtain ⟨p, h1, h2⟩ := h.getT e
  exact ⟨p, h1, .inl (.inl h2)⟩
theorem at_map {r : List Int} {i x : Int} (h0 : 0 ≤ i) (e : r[i.toNat]? = some x) : atI (r.map V.int) i = some (.int x) := by
  have e0 : i = ((i.toNat : Nat) : Int) := by omega
  rw [e0]
  exact atI_nat (j := i.toNat) (by rw [List.getElem?_map, e]; rfl)
theorem at_ref {xs : List V} {i : Int} {p : Addr} (h0 : 0 ≤ i) (e : xs[i.toNat]? = some (.ref p)) : atI xs i = some (.ref p) := by
  have e0 : i = ((i.toNat : Nat) : Int) := by omega
  rw [e0]
  exact atI_nat (j := i.toNat) e
end K1
set_option Elab.async false
set_option linter.all false
set_option maxRecDepth 100000
set_option maxHeartbeats 2000000
namespace K1
open PySem PySem.Spec PyProof.Rows L2 Ver
theorem seqT_upd {K : PySem.W.Frag} {H : Hp} {L p : Addr} {ys xs : List V} {o : HO} (hL : H L = some (.lst ys)) (h : SqT K H p xs) : SqT K (upd H L o) p xs := by
  rcases h with (h | ⟨u, h⟩) | h
  · refine .inl (.inl ?_)
    rw [upd_ne (ne_of h hL (by intro z; cases z))]
    exact h
  · refine .inl (.inr ⟨u, ?_⟩)
    rw [upd_ne (ne_of h hL (by intro z; cases z))]
    exact h
  · exact .inr h
theorem tup_upd {H : Hp} {L p : Addr} {ys xs : List V} {o : HO} (hL : H L = some (.lst ys)) (h : H p = some (.tup xs)) : upd H L o p = some (.tup xs) := by
  rw [upd_ne (ne_of h hL (by intro z; cases z))]
  exact h
theorem Rows.upd {K : PySem.W.Frag} {H : Hp} {L : Addr} {ys : List V} {o : HO} (hL : H L = some (.lst ys)) : ∀ {vs : List V} {rs : List (List Int)}, Rows K H vs rs → Rows K (upd H L o) vs rs
  | _, _, .nil => .nil
  | _, _, .cons ⟨p, h1, h2⟩ t => .cons ⟨p, h1, tup_upd hL h2⟩ (Rows.upd hL t)
theorem Rows.app {K : PySem.W.Frag} {H : Hp} : ∀ {vs us : List V} {rs qs : List (List Int)}, Rows K H vs rs → Rows K H us qs → Rows K H (vs ++ us) (rs ++ qs)
  | _, _, _, _, .nil, h => h
  | _, _, _, _, .cons h1 t, h => .cons h1 (Rows.app t h)
theorem same_upd2 {H H1 : Hp} {L : Addr} {o : HO} (s : Same H H1) (n : H L = none) : Same H (upd H1 L o) := fun b x e => by
  rw [upd_ne (ne_of_none e n)]
  exact s b x e
def extG (m : Nat) (r : List Int) : List (List Int) := (List.range m).map fun t => r ++ [((t : Nat) : Int)]
def layG (m : Nat) : Nat → List (List Int)
  | 0 => [[]]
  | n + 1 => (layG m n).flatMap (extG m)
def rowsG (m n : Nat) : List (List Int) := (List.range (n + 1)).flatMap (layG m)
theorem rowsG_succ (m n : Nat) : rowsG m (n + 1) = rowsG m n ++ layG m (n + 1) := by
  unfold rowsG
  rw [List.range_succ, List.flatMap_append, List.flatMap_singleton]
theorem layG_len (m : Nat) : ∀ n, (layG m n).length = m ^ n
  | 0 => rfl
  | n + 1 => by
    show ((layG m n).flatMap (extG m)).length = m ^ (n + 1)
    rw [List.length_flatMap, Nat.pow_succ, ← layG_len m n]
    generalize layG m n = l
    induction l with
    | nil => simp
    | cons a l ih =>
      rw [List.map_cons, List.sum_cons, ih, List.length_cons]
      have : (extG m a).length = m := by unfold extG; rw [List.length_map, List.length_range]
      rw [this, Nat.succ_mul, Nat.add_comm]
theorem layG_mem {m : Nat} : ∀ {n : Nat} {r : List Int}, r ∈ layG m n → r.length = n ∧ ∀ t ∈ r, 0 ≤ t ∧ t < (m : Int)
  | 0, r, h => by
    rw [List.mem_singleton.mp h]
    exact ⟨rfl, fun t ht => by simp at ht⟩
  | n + 1, r, h => by
    obtain ⟨a, ha, hr⟩ := List.mem_flatMap.mp (show r ∈ (layG m n).flatMap (extG m) from h)
    obtain ⟨t, ht, rfl⟩ := List.mem_map.mp (show r ∈ (List.range m).map fun t => a ++ [((t : Nat) : Int)] from hr)
    obtain ⟨l, al⟩ := layG_mem ha
    refine ⟨by rw [List.length_append, l]; rfl, fun u hu => ?_⟩
    rcases List.mem_append.mp hu with hu | hu
    · exact al u hu
    · rw [List.mem_singleton.mp hu]
      have := List.mem_range.mp ht
      omega
theorem pow_le {m n : Nat} (hm : m ≤ 4) (hn : n ≤ 6) : m ^ n ≤ 4096 := by
  have h1 : m ^ n ≤ 4 ^ n := Nat.pow_le_pow_left hm n
  have h2 : 4 ^ n ≤ 4 ^ 6 := Nat.pow_le_pow_right (by decide) hn
  have h3 : 4 ^ 6 = 4096 := by decide
  omega
theorem rowsG_len {m : Nat} (hm : m ≤ 4) : ∀ n, n ≤ 6 → (rowsG m n).length ≤ 4096 * (n + 1)
  | 0, _ => by
    have : (rowsG m 0).length = 1 := rfl
    omega
  | n + 1, h => by
    rw [rowsG_succ, List.length_append, layG_len]
    have h1 := rowsG_len hm n (by omega)
    have h2 := pow_le hm h
    omega
section
variable {P : Program} {w : World} {K : PySem.W.Frag} {mg : Str → Option Value} {base : Heap}
def sp__law_rows (K : PySem.W.Frag) : Sp := fun vs H Q _ => ∃ m n : Nat, vs = [.int m, .int n] ∧ m ≤ 4 ∧ n ≤ 6 ∧ ∀ p us H', Same H H' → H p = none → H' p = some (.lst us) → Rows K H' us (rowsG m n) → Q (.ref p) H'
theorem ok__law_rows (T : Tx K mg) : FnOk P w K mg base CX0 1 T.f__law_rows T.d__law_rows ["m", "most"] (sp__law_rows K) := by
  refine T.F__law_rows.ok sc__law_rows (fun vs H Q E h => ?_) (fun cdv A outer s H vs Q E hr h => ?_)
  · obtain ⟨m, n, rfl, _⟩ := h; rfl
  · obtain ⟨m, n, rfl, hm, hn, q⟩ := h
    refine ⟨_, (pss_cons (ps_set (i := 2) sc__law_rows.nd rfl (Or.inl rfl) (pe_lst (pa_cons (pe_tup pa_nil) pa_nil)))
    (pss_cons (ps_set (i := 3) sc__law_rows.nd rfl (Or.inl rfl) (pe_lst (pa_cons (pe_tup pa_nil) pa_nil)))
    (pss_cons (ps_for PassesOwn.never rfl (pi_range1 rfl T.n_range (pa_cons (pv 1) pa_nil)) (pg_name (i := 4) sc__law_rows.nd rfl (Or.inl rfl))
    (pss_cons (ps_set (i := 5) sc__law_rows.nd rfl (Or.inl rfl) (pe_lst pa_nil))
    (pss_cons (ps_for PassesOwn.never rfl (pi_list (pv 3)) (pg_name (i := 6) sc__law_rows.nd rfl (Or.inl rfl))
    (pss_one (ps_for PassesOwn.never rfl (pi_range1 rfl T.n_range (pa_cons (pv 0) pa_nil)) (pg_name (i := 7) sc__law_rows.nd rfl (Or.inl rfl))
    (pss_one (ps_expr (pe_bm PySem.F.plainAttrs_list PySem.F.slot_list_append PySem.F.type_list_append mt_append (pv 5) (pa_cons (pe_op op_catA (pv 6) (pe_tup (pa_cons (pv 7) pa_nil))) pa_nil)))))))
    (pss_cons (ps_expr (pe_bm PySem.F.plainAttrs_list PySem.F.slot_list_extend PySem.F.type_list_extend mt_extend (pv 2) (pa_cons (pv 5) pa_nil)))
    (pss_one (ps_set (i := 3) sc__law_rows.nd rfl (Or.inl rfl) (pv 5)))))))
    (pss_one (ps_ret (pv 2)))))), ?_⟩
    refine ⟨Nat.zero_le _, fun e1 ne1 => ⟨small' (by simp), fun R nR => ?_⟩⟩
    refine ⟨Nat.zero_le _, fun e2 ne2 => ⟨small' (by simp), fun L nL => ?_⟩⟩
    have a1 : Same H (upd H e1 (.tup [])) := same_new ne1
    have nRH : H R = none := a1.free nR
    have a2 := same_new (o := .lst [.ref e1]) nR
    have a3 := same_new (o := .tup []) ne2
    have nLH : H L = none := ((a1.trans a2).trans a3).free nL
    have a4 := same_new (o := .lst [.ref e2]) nL
    have RL : R ≠ L := ne_of_none (a3 R _ upd_same) nL
    refine ⟨.int n, rfl, n, rfl, by omega, by omega, ?_⟩
    refine for_range0 (n := ((n : Nat) : Int).toNat) (fun i σ H' => ∃ (L : Addr) (vr vl : List V) (y4 y5 y6 y7 : Option V), σ = [some (.int m), some (.int n), some (.ref R), some (.ref L), y4, y5, y6, y7] ∧ Same H H' ∧ H L = none ∧ R ≠ L ∧ H' R = some (.lst vr) ∧ H' L = some (.lst vl) ∧ Rows K H' vr (rowsG m i) ∧ Rows K H' vl (layG m i))
      ⟨L, [.ref e1], [.ref e2], none, none, none, none, rfl, ((a1.trans a2).trans a3).trans a4, nLH, RL, a4 _ _ (a3 _ _ upd_same), upd_same, ?_, ?_⟩ (fun i σ H' lt h => ?_) (fun σ H' h => ?_)
    · exact .cons ⟨e1, rfl, a4 _ _ (a3 _ _ (a2 _ _ upd_same))⟩ .nil
    · exact .cons ⟨e2, rfl, a4 _ _ upd_same⟩ .nil
    · obtain ⟨L, vr, vl, y4, y5, y6, y7, rfl, sm, nLH, RL, hR, hL, gR, gL⟩ := h
      have ltn : i < n := by omega
      refine ⟨Nat.zero_le _, fun G nG => ?_⟩
      have nGH : H G = none := sm.free nG
      have RG : R ≠ G := ne_of_none hR nG
      have LG : L ≠ G := ne_of_none hL nG
      have b1 := same_new (o := .lst []) nG
      refine ⟨.ref L, rfl, L, rfl, ⟨_, .inl (.inl (b1 _ _ hL))⟩, ?_⟩
      refine for_list (K := K) (a := L) (xs := vl) (fun j σ H2 => ∃ (vg : List V) (y6 y7 : Option V), σ = [some (.int m), some (.int n), some (.ref R), some (.ref L), some (.int (i : Int)), some (.ref G), y6, y7] ∧ Same H H2 ∧ H2 R = some (.lst vr) ∧ H2 L = some (.lst vl) ∧ H2 G = some (.lst vg) ∧ Rows K H2 vr (rowsG m i) ∧ Rows K H2 vl (layG m i) ∧ Rows K H2 vg (((layG m i).take j).flatMap (extG m)))
        ⟨[], y6, y7, rfl, sm.trans b1, b1 _ _ hR, b1 _ _ hL, upd_same, gR.grow b1, gL.grow b1, .nil⟩ (fun j σ H2 _ h => ?_) (fun j x σ H2 ex h => ?_) (fun σ H2 h => ?_)
      · obtain ⟨_, _, _, _, _, _, hL2, _⟩ := h
        exact .inl (.inl hL2)
      · obtain ⟨vg, y6, y7, rfl, sm2, hR2, hL2, hG2, gR2, gL2, gG2⟩ := h
        have ltj : j < vl.length := (List.getElem?_eq_some_iff.mp ex).1
        have el : vl.length = m ^ i := (Paired.length gL).trans (layG_len m i)
        obtain ⟨r, er⟩ : ∃ r, (layG m i)[j]? = some r := ⟨_, List.getElem?_eq_getElem (by rw [← Paired.length gL]; exact ltj)⟩
        obtain ⟨pr, epr, hpr⟩ := gL2.get er
        have ex2 : x = .ref pr := Option.some.inj (ex.symm.trans epr)
        subst ex2
        have lg : vg.length ≤ 4096 * 4 := by
          have h1 := Paired.length gG2
          have h2 : (((layG m i).take j).flatMap (extG m)).length = ((layG m i).take j).length * m := by
            rw [List.length_flatMap]
            generalize (layG m i).take j = l
            induction l with
            | nil => simp
            | cons a l ih =>
              have : (extG m a).length = m := by unfold extG; rw [List.length_map, List.length_range]
              rw [List.map_cons, List.sum_cons, ih, List.length_cons, this, Nat.succ_mul, Nat.add_comm]
          have h3 : ((layG m i).take j).length ≤ 4096 := by
            rw [List.length_take, layG_len]
            have := pow_le hm (show i ≤ 6 by omega)
            omega
          have h4 : ((layG m i).take j).length * m ≤ 4096 * 4 := Nat.mul_le_mul h3 hm
          omega
        refine ⟨.int m, rfl, m, rfl, by omega, by omega, ?_⟩
        refine for_range0 (n := ((m : Nat) : Int).toNat) (fun t σ H3 => ∃ (vt : List V) (y7 : Option V), σ = [some (.int m), some (.int n), some (.ref R), some (.ref L), some (.int (i : Int)), some (.ref G), some (.ref pr), y7] ∧ Same H H3 ∧ H3 R = some (.lst vr) ∧ H3 L = some (.lst vl) ∧ H3 G = some (.lst vt) ∧ Rows K H3 vr (rowsG m i) ∧ Rows K H3 vl (layG m i) ∧ SqT K H3 pr (r.map V.int) ∧
            Rows K H3 vt (((layG m i).take j).flatMap (extG m) ++ (List.range t).map fun k => r ++ [((k : Nat) : Int)]) ∧ vt.length = vg.length + t)
          ⟨vg, y7, rfl, sm2, hR2, hL2, hG2, gR2, gL2, hpr, by rw [List.range_zero, List.map_nil, List.append_nil]; exact gG2, rfl⟩ (fun t σ H3 lt3 h => ?_) (fun σ H3 h => ?_)
        · obtain ⟨vt, y7, rfl, sm3, hR3, hL3, hG3, gR3, gL3, hp3, gt3, lt4⟩ := h
          refine ⟨.ref G, rfl, .inl ⟨rfl, _, .inl (.inl hG3)⟩, .ref pr, rfl, .int (t : Int), rfl, small' (by simp), fun c nc => ?_⟩
          have c1 := same_new (o := .tup [.int (t : Int)]) nc
          have fin : ∀ z H4, Same H3 H4 → H4 z = some (.tup ((r ++ [((t : Nat) : Int)]).map V.int)) → ∃ (vt' : List V) (y7 : Option V), ([some (.int m), some (.int n), some (.ref R), some (.ref L), some (.int (i : Int)), some (.ref G), some (.ref pr), some (.int (t : Int))] : L2.St) = [some (.int m), some (.int n), some (.ref R), some (.ref L), some (.int (i : Int)), some (.ref G), some (.ref pr), y7] ∧
              Same H (upd H4 G (.lst (vt ++ [.ref z]))) ∧ (upd H4 G (.lst (vt ++ [.ref z]))) R = some (.lst vr) ∧ (upd H4 G (.lst (vt ++ [.ref z]))) L = some (.lst vl) ∧ (upd H4 G (.lst (vt ++ [.ref z]))) G = some (.lst vt') ∧ Rows K (upd H4 G (.lst (vt ++ [.ref z]))) vr (rowsG m i) ∧ Rows K (upd H4 G (.lst (vt ++ [.ref z]))) vl (layG m i) ∧
              SqT K (upd H4 G (.lst (vt ++ [.ref z]))) pr (r.map V.int) ∧ Rows K (upd H4 G (.lst (vt ++ [.ref z]))) vt' (((layG m i).take j).flatMap (extG m) ++ (List.range (t + 1)).map fun k => r ++ [((k : Nat) : Int)]) ∧ vt'.length = vg.length + (t + 1) := fun z H4 s4 hz => by
            have hG4 := s4 _ _ hG3
            refine ⟨vt ++ [.ref z], some (.int (t : Int)), rfl, same_upd2 (sm3.trans s4) nGH, ?_, ?_, upd_same, (gR3.grow s4).upd hG4, (gL3.grow s4).upd hG4, seqT_upd hG4 (seqT_grow s4 hp3), ?_, ?_⟩
            · rw [upd_ne RG]; exact s4 _ _ hR3
            · rw [upd_ne LG]; exact s4 _ _ hL3
            · rw [List.range_succ, List.map_append, List.map_singleton, ← List.append_assoc]
              exact ((gt3.grow s4).upd hG4).app (.cons ⟨z, rfl, tup_upd hG4 hz⟩ .nil)
            · rw [List.length_append, lt4]; rfl
          have szt : vt.length < sizeLine := small (by omega)
          refine ⟨pr, c, r.map V.int, [.int (t : Int)], rfl, rfl, seqT_grow c1 hp3, .inl (.inl upd_same), ?_, fun er => ?_, fun _ z => ?_, fun nr _ d nd => ?_⟩
          · have := (layG_mem (List.mem_of_getElem? er)).1
            rw [List.length_map, this]
            exact small' (by show i + 1 ≤ 100000; omega)
          · have hGc := c1 _ _ hG3
            refine ⟨G, vt, .ref c, rfl, rfl, hGc, szt, ?_⟩
            refine fin c _ c1 ?_
            rw [List.map_append, er]
            exact upd_same
          · cases z
          · have d1 := same_new (o := .tup (r.map V.int ++ [.int (t : Int)])) nd
            have hGd := d1 _ _ (c1 _ _ hG3)
            refine ⟨G, vt, .ref d, rfl, rfl, hGd, szt, ?_⟩
            refine fin d _ (c1.trans d1) ?_
            rw [List.map_append]
            exact upd_same
        · obtain ⟨vt, y7, rfl, sm3, hR3, hL3, hG3, gR3, gL3, hp3, gt3, lt4⟩ := h
          refine ⟨vt, some (.ref pr), y7, rfl, sm3, hR3, hL3, hG3, gR3, gL3, ?_⟩
          have e5 : ((layG m i).take (j + 1)).flatMap (extG m) = ((layG m i).take j).flatMap (extG m) ++ (List.range ((m : Nat) : Int).toNat).map fun k => r ++ [((k : Nat) : Int)] := by
            rw [List.take_add_one, er, List.flatMap_append, Int.toNat_natCast]
            show _ = _ ++ extG m r
            simp
          rw [e5]
          exact gt3
      · obtain ⟨vg, y6, y7, rfl, sm2, hR2, hL2, hG2, gR2, gL2, gG2⟩ := h
        have el : vl.length = (layG m i).length := Paired.length gL
        rw [el, List.take_length] at gG2
        have gG3 : Rows K H2 vg (layG m (i + 1)) := gG2
        refine ⟨.ref R, rfl, .inl ⟨rfl, _, .inl (.inl hR2)⟩, .ref G, rfl, R, G, vr, vg, rfl, rfl, hR2, hG2, ?_, ?_⟩
        · have h1 := Paired.length gR
          have h2 := rowsG_len hm i (by omega)
          have h3 := Paired.length gG3
          rw [layG_len] at h3
          have h4 := pow_le hm (show i + 1 ≤ 6 by omega)
          refine small' ?_
          omega
        · refine ⟨.ref G, rfl, ?_⟩
          refine ⟨G, vr ++ vg, vg, some (.int (i : Int)), some (.ref G), y6, y7, rfl, same_upd2 sm2 nRH, nGH, RG, upd_same, ?_, ?_, gG3.upd hR2⟩
          · rw [upd_ne RG.symm]; exact hG2
          · rw [rowsG_succ]
            exact (gR2.upd hR2).app (gG3.upd hR2)
    · obtain ⟨L, vr, vl, y4, y5, y6, y7, rfl, sm, nLH, RL, hR, hL, gR, gL⟩ := h
      rw [Int.toNat_natCast] at gR
      exact ⟨.ref R, rfl, q R vr H' sm nRH hR gR⟩
end
end K1
set_option Elab.async false
set_option linter.all false
set_option maxRecDepth 100000
set_option maxHeartbeats 2000000
namespace K1
open PySem PySem.Spec PyProof.Rows L2 Ver
def signN (c : Nat) : Bool := decide (32 ≤ c) && decide (c ≤ 126) && decide (c ≠ 37)
def textD : PyData → Bool | .str z => z.cps.toList.all signN | _ => false
def lenT : PyData → Nat | .str z => z.length | _ => 0
theorem lt_one {a b : Nat} : decide ([a] < [b]) = decide (a < b) := by
  by_cases h : a < b
  · rw [decide_eq_true h, decide_eq_true (List.cons_lt_cons_iff.mpr (.inl h))]
  · rw [decide_eq_false h, decide_eq_false]
    intro z
    rcases List.cons_lt_cons_iff.mp z with z | ⟨_, z⟩
    · exact h z
    · exact absurd z (List.lt_irrefl _)
section
variable {P : Program} {w : World} {K : PySem.W.Frag} {mg : Str → Option Value} {base : Heap}
def sp__is_sign (K : PySem.W.Frag) : Sp := fun vs H Q _ => ∃ c : Nat, vs = [.str ⟨#[c]⟩] ∧ Q (.bl (signN c)) H
theorem ok__is_sign (T : Tx K mg) : FnOk P w K mg base CX0 1 T.f__is_sign T.d__is_sign ["sign"] (sp__is_sign K) := by
  refine T.F__is_sign.ok sc__is_sign (fun vs H Q E h => ?_) (fun cdv A outer s H vs Q E hr h => ?_)
  · obtain ⟨c, rfl, _⟩ := h; rfl
  · obtain ⟨c, rfl, q⟩ := h
    refine ⟨_, (pss_one (ps_ret (pe_and (pe_chain op_le_str op_le_str pe_str (pv 0) pe_str) (pe_one (pe_cmpR op_ne (pe_callB call_ord (by rfl) T.n_ord (by decide +kernel) (pa_cons (pv 0) pa_nil)) (pe_glob (v := .int (37)) rfl T.c__PERCENT.choose_spec ⟨_, rfl⟩) (nomark _)))))), ?_⟩
    refine ⟨.str ⟨#[c]⟩, rfl, _, _, rfl, rfl, _, rfl, ?_⟩
    have e1 : decide ((⟨#[c]⟩ : Str).cps.toList < (Str.ofString " ").cps.toList) = decide (c < 32) := lt_one (a := c) (b := 32)
    have e2 : decide ((Str.ofString "~").cps.toList < (⟨#[c]⟩ : Str).cps.toList) = decide (126 < c) := lt_one (a := 126) (b := c)
    rw [e1]
    refine ite2 (fun h1 => ⟨_, _, rfl, rfl, _, rfl, ?_⟩) (fun h1 => ⟨_, rfl, ?_⟩)
    · rw [e2]
      refine ite2 (fun h2 => ⟨.str ⟨#[c]⟩, rfl, ⟨#[c]⟩, rfl, rfl, rfl, ?_⟩) (fun h2 => ?_)
      · have es : signN c = !decide (V.int ((((#[c] : Array Nat).getD 0 0 : Nat)) : Int) = V.int 37) := by
          have a1 : ¬ c < 32 := by simpa using h1
          have a2 : ¬ 126 < c := by simpa using h2
          have a3 : ((#[c] : Array Nat).getD 0 0) = c := rfl
          rw [a3]
          unfold signN
          rw [decide_eq_true (by omega : 32 ≤ c), decide_eq_true (by omega : c ≤ 126)]
          by_cases e : c = 37
          · subst e; rfl
          · have e' : ¬ (V.int (c : Int) = V.int 37) := fun z => e (by injection z with z; omega)
            rw [decide_eq_false e', decide_eq_true e]; rfl
        rw [es] at q
        exact q
      · have a2 : 126 < c := by simpa using h2
        have es : signN c = false := by
          unfold signN
          rw [decide_eq_false (by omega : ¬ c ≤ 126), Bool.and_false, Bool.false_and]
        rw [es] at q
        exact q
    · have a1 : c < 32 := by simpa using h1
      have es : signN c = false := by
        unfold signN
        rw [decide_eq_false (by omega : ¬ 32 ≤ c)]; rfl
      rw [es] at q
      exact q
def sp_is_text (K : PySem.W.Frag) : Sp := fun vs H Q _ => ∃ x d, vs = [x] ∧ Dp K H x d ∧ lenT d ≤ 5000 ∧ ∀ H', Same H H' → Q (.bl (textD d)) H'
theorem ok_is_text (T : Tx K mg) : FnOk P w K mg base CX0 2 T.f_is_text T.d_is_text ["thing"] (sp_is_text K) := by
  refine T.F_is_text.ok sc_is_text (fun vs H Q E h => ?_) (fun cdv A outer s H vs Q E hr h => ?_)
  · obtain ⟨x, d, rfl, _⟩ := h; rfl
  · obtain ⟨x, d, rfl, hd, hl, q⟩ := h
    refine ⟨_, (pss_one (ps_ret (pe_and (pe_callB (cr_isiD (n := "str") (by decide)) (by rfl) T.n_isinstance (by decide +kernel) (pa_cons (pv 0) (pa_cons (pe_bltn (v := .ty "str") (by rfl) T.n_str (by decide +kernel) rfl) pa_nil))) (pe_one (pe_callB (cr_all rfl) (by rfl) T.n_all (by decide +kernel) (pa_cons (pe_lc (own := [("sign", 1)]) (g := gName 1) (tt := tYes) (by rfl) sc_is_text.nd (pi_str (pv 0)) (blkOk_by (N := ["thing", "sign"]) (sc := defScope s_is_text) (by decide +kernel)) (fun _ _ _ _ _ => (pg_name (i := 1) sc_is_text.nd rfl (Or.inl rfl))) (fun _ _ _ _ _ => pts_nil) (fun _ _ _ _ _ => (pe_call (ok__is_sign T) hr rfl T.g__is_sign T.F__is_sign.kp T.b__is_sign .nil pass0 (pa_cons (pv 1) pa_nil)))) pa_nil)))))), ?_⟩
    refine ⟨x, rfl, x, d, rfl, hd, _, rfl, ?_⟩
    rw [isa_str]
    cases d
    case str z =>
      cases hd
      refine ⟨.str z, rfl, z, rfl, fun D nD => ?_⟩
      have sm : Same H (upd H D (.lst [])) := same_new nD
      refine comp_str (x := z) (i := 1) (fun acc H' => Same H H' ∧ acc = ((z.cps.toList.take acc.length).map fun c => V.bl (signN c))) ⟨sm, rfl⟩ (fun acc c H' e h hD => ?_) (fun acc H' e h hD => ?_)
      · refine ⟨_, rfl, c, rfl, ?_⟩
        have e' : z.cps.toList[acc.length]? = some c := by rw [Array.getElem?_toList]; exact e
        have lt : acc.length < z.cps.toList.length := (List.getElem?_eq_some_iff.mp e').1
        have hz : z.cps.toList.length ≤ 5000 := by rw [Array.length_toList]; exact hl
        refine turned hD (small (by omega)) ⟨fun b o eb => ?_, ?_⟩
        · rw [upd_ne (ne_of_none eb nD)]
          exact h.1 b o eb
        · rw [List.length_append, List.length_singleton, List.take_add_one, e', List.map_append, ← h.2]
          rfl
      · refine ⟨D, z.cps.toList.map signN, rfl, .inl (.inl ?_), ?_⟩
        · have el : z.length = z.cps.toList.length := by rw [Array.length_toList]; rfl
          rw [hD, h.2, e, el, List.take_length, List.map_map]
          rfl
        · have e2 : (z.cps.toList.map signN).all id = z.cps.toList.all signN := by rw [List.all_map]; rfl
          rw [e2]
          exact q H' h.1
    all_goals exact q H (Same.refl H)
def sp_ask_text (K : PySem.W.Frag) (C : Addr) : Sp := fun vs H Q E => ∃ x d, vs = [x] ∧ Dp K H x d ∧ lenT d ≤ 5000 ∧ (textD d = true → lenT d ≤ 1200 → ∀ H', Same H H' → Q .non H') ∧ (¬ (textD d = true ∧ lenT d ≤ 1200) → Refuses C E H "text")
theorem ok_ask_text (T : Tx K mg) : FnOk P w K mg base (L2.CX P w) 3 T.f_ask_text T.d_ask_text ["text"] (sp_ask_text K T.C_NotUsable) := by
  refine T.F_ask_text.okX sc_ask_text (fun vs H Q E h => ?_) (fun cdv A outer s H vs Q E hr h => ?_)
  · obtain ⟨x, d, rfl, _⟩ := h; rfl
  · obtain ⟨x, d, rfl, hd, hl, q1, q2⟩ := h
    refine ⟨_, (pss_one (ps_if (PW.pt (pw_or (pt_not (pt_val (pe_call (ok_is_text T) hr rfl T.g_is_text T.F_is_text.kp T.b_is_text .nil pass0 (pa_cons (pv 0) pa_nil)))) (pw_or1 (pt_cmpR op_gt (pe_callB call_len_str (by rfl) T.n_len (by decide +kernel) (pa_cons (pv 0) pa_nil)) (pe_glob (v := .int (1200)) rfl T.c_TEXT_LIMIT.choose_spec ⟨_, rfl⟩) (nomark _))))) (pss_one (ps_raiseNus rfl T.nus hr (takes_of rfl rfl rfl rfl) (pa_cons pe_str pa_nil))) pss_nil)), ?_⟩
    refine ⟨x, rfl, x, d, rfl, hd, hl, fun H' sm => ?_⟩
    refine ⟨_, rfl, ?_⟩
    cases e : textD d with
    | false => exact ⟨_, rfl, fun dd n => q2 (fun z => by rw [e] at z; cases z.1) H' dd sm n⟩
    | true =>
      cases d
      case str z =>
        cases hd
        have hl' : z.length ≤ 5000 := hl
        refine ⟨.str z, rfl, z, rfl, small' (by omega), z.length, 1200, rfl, rfl, _, rfl, ?_⟩
        refine ite2 (fun h1 => ?_) (fun h1 => ?_)
        · have h1' := of_decide_eq_true h1
          exact ⟨_, rfl, fun dd n => q2 (fun z2 => by have : z.length ≤ 1200 := z2.2; omega) H' dd sm n⟩
        · have h1' : ¬ (1200 : Int) < z.length := by simpa using h1
          exact q1 e (by show z.length ≤ 1200; omega) H' sm
      all_goals cases e
end
end K1
set_option Elab.async false
set_option linter.all false
set_option maxRecDepth 100000
set_option maxHeartbeats 2000000
namespace K1
open PySem PySem.Spec PyProof.Rows L2 Ver
def tabN (ts : List Str) : Nat → List (L2.Key × V)
  | 0 => []
  | n + 1 => match ts[n]? with | some z => putK (tabN ts n) (.inr z) (.int (n : Int)) | none => tabN ts n
def numAt (ts : List Str) (z : Str) : Nat → Int
  | 0 => -1
  | n + 1 => if ts[n]? = some z then (n : Int) else numAt ts z n
theorem tabN_len (ts : List Str) : ∀ n, (tabN ts n).length ≤ n
  | 0 => Nat.le_refl _
  | n + 1 => by
    have ih := tabN_len ts n
    show (match ts[n]? with | some z => putK (tabN ts n) (.inr z) (.int (n : Int)) | none => tabN ts n).length ≤ n + 1
    cases ts[n]? with
    | none => exact Nat.le_succ_of_le ih
    | some z => exact Nat.le_trans (length_putK _ _ _) (Nat.succ_le_succ ih)
theorem tabN_at (ts : List Str) (z : Str) : ∀ n, (valV (tabN ts n) (.inr z)).getD (.int (-1)) = .int (numAt ts z n)
  | 0 => rfl
  | n + 1 => by
    have ih := tabN_at ts z n
    show (valV (match ts[n]? with | some z => putK (tabN ts n) (.inr z) (.int (n : Int)) | none => tabN ts n) (.inr z)).getD (.int (-1)) = .int (if ts[n]? = some z then (n : Int) else numAt ts z n)
    cases e : ts[n]? with
    | none =>
      rw [if_neg (by simp)]
      exact ih
    | some y =>
      show (valV (putK (tabN ts n) (.inr y) (.int (n : Int))) (.inr z)).getD (.int (-1)) = _
      rw [valV_put]
      by_cases q : y = z
      · subst q
        rw [if_pos rfl, if_pos rfl]
        rfl
      · rw [if_neg (fun h => q (Sum.inr.inj h).symm), if_neg (fun h => q (Option.some.inj h))]
        exact ih
def rowL (ts : List Str) (is : List Int) : List Nat := is.flatMap fun i => (ts.getD i.toNat "").cps.toList
def rowS (ts : List Str) (is : List Int) : Str := ⟨(rowL ts is).toArray⟩
theorem joinL_flat : ∀ ys : List (List Nat), TL.joinL [] ys = ys.flatten
  | [] => rfl
  | [p] => by simp [TL.joinL]
  | p :: q :: r => by
    show p ++ ([] ++ TL.joinL [] (q :: r)) = _
    rw [joinL_flat (q :: r)]
    rfl
theorem join_row (ts : List Str) (is : List Int) : Txt.join "" (is.map fun i => ts.getD i.toNat "") = rowS ts is := by
  refine TL.ext_tl ?_
  rw [TL.join_eq, TL.tl_join]
  have e : TL.tl (Str.ofString "") = [] := by rfl
  rw [e, joinL_flat, List.map_map]
  show _ = rowL ts is
  unfold rowL
  rw [List.flatMap_def]
  rfl
theorem rowL_len (ts : List Str) (n : Nat) (h : ∀ z ∈ ts, z.length ≤ n) : ∀ is : List Int, ((is.map fun i => ts.getD i.toNat "").map (·.length)).sum ≤ is.length * n
  | [] => by simp
  | i :: is => by
    have ih := rowL_len ts n h is
    rw [List.map_cons, List.map_cons, List.sum_cons, List.length_cons, Nat.succ_mul]
    have a : (ts.getD i.toNat "").length ≤ n := by
      rw [List.getD_eq_getElem?_getD]
      cases e : ts[i.toNat]? with
      | none => exact Nat.zero_le _
      | some z => exact h z (List.mem_of_getElem? e)
    omega
section
variable {P : Program} {w : World} {K : PySem.W.Frag} {mg : Str → Option Value} {base : Heap}
def sp_token_numbers (K : PySem.W.Frag) : Sp := fun vs H Q _ => ∃ (t : Addr) (ts : List Str), vs = [.ref t] ∧ SqT K H t (ts.map V.str) ∧ ts.length ≤ 1000 ∧
  ∀ D H', Same H H' → H' D = some (.dK (tabN ts ts.length)) → Q (.ref D) H'
theorem ok_token_numbers (T : Tx K mg) : FnOk P w K mg base CX0 1 T.f_token_numbers T.d_token_numbers ["tokens"] (sp_token_numbers K) := by
  refine T.F_token_numbers.ok sc_token_numbers (fun vs H Q E h => ?_) (fun cdv A outer s H vs Q E hr h => ?_)
  · obtain ⟨t, ts, rfl, _⟩ := h; rfl
  · obtain ⟨t, ts, rfl, hT, hl, q⟩ := h
    refine ⟨_, (pss_one (ps_ret (pe_dc (own := [("k", 1), ("token", 2)]) (g := _) (tt := tYes) rfl sc_token_numbers.nd (pi_enumT (by rfl) T.n_enumerate (pa_cons (pv 0) pa_nil)) (blkOk_by (N := ["tokens", "k", "token"]) (sc := defScope s_token_numbers) (by decide +kernel)) (fun _ _ _ _ _ => (pg_tupK (K := K) (n := 2) rfl rfl rfl rfl (pgs_cons (pg_name (i := 1) sc_token_numbers.nd rfl (Or.inl rfl)) (pgs_cons (pg_name (i := 2) sc_token_numbers.nd rfl (Or.inl rfl)) pgs_nil)))) (fun _ _ _ _ _ => pts_nil) (fun _ _ _ _ _ => (pv 2)) (fun _ _ _ _ _ => (pv 1))))), ?_⟩
    refine ⟨.ref t, rfl, t, _, rfl, hT, fun D nD => ?_⟩
    have s0 := same_new (o := .dK []) nD
    refine dc_enumT (K := K) (a := t) (xs := ts.map V.str) (fun i H' => Same H H' ∧ H' D = some (.dK (tabN ts i))) ⟨s0, upd_same⟩ (fun i H' _ h => seqT_grow h.1 hT) (fun i x H' T e h nT => ?_) (fun H' h => ?_)
    · obtain ⟨z, ez, rfl⟩ : ∃ z, ts[i]? = some z ∧ V.str z = x := by
        rw [List.getElem?_map] at e
        cases ez : ts[i]? with
        | none => rw [ez] at e; cases e
        | some z => rw [ez] at e; exact ⟨z, rfl, Option.some.inj e⟩
      have lt : i < ts.length := (List.getElem?_eq_some_iff.mp ez).1
      have TD : D ≠ T := ne_of_none h.2 nT
      have sT : Same H' (upd H' T (.tup [.int (i : Nat), .str z])) := same_new nT
      have hD2 : (upd H' T (.tup [.int (i : Nat), .str z])) D = some (.dK (tabN ts i)) := sT _ _ h.2
      refine ⟨T, _, rfl, .inl (.inl upd_same), rfl, .int (i : Nat), _, rfl, .str z, _, rfl, rfl, rfl, ?_⟩
      refine ⟨.str z, rfl, .int (i : Nat), rfl, tabN ts i, .inr z, rfl, hD2, small (Nat.le_trans (tabN_len ts i) (by omega)), ?_, ?_⟩
      · intro b o eb
        rw [upd_ne (ne_of_none eb nD)]
        exact sT _ _ (h.1 b o eb)
      · rw [upd_same]
        show some (HO.dK (putK (tabN ts i) (.inr z) (.int (i : Int)))) = some (HO.dK (match ts[i]? with | some z => putK (tabN ts i) (.inr z) (.int (i : Int)) | none => tabN ts i))
        rw [ez]
    · rw [List.length_map] at h
      exact q D H' h.1 h.2
def sp_token_number (K : PySem.W.Frag) (C : Addr) : Sp := fun vs H Q E => ∃ (t : Addr) (ts : List Str) (x : V) (d : PyData), vs = [.ref t, x] ∧ SqT K H t (ts.map V.str) ∧ ts.length ≤ 1000 ∧ Dp K H x d ∧ lenT d ≤ 5000 ∧
  (∀ z, d = .str z → textD d = true → z.length ≤ 1200 → ∀ H', Same H H' → Q (.int (numAt ts z ts.length)) H') ∧ (¬ (textD d = true ∧ lenT d ≤ 1200) → Refuses C E H "text")
theorem ok_token_number (T : Tx K mg) : FnOk P w K mg base (L2.CX P w) 4 T.f_token_number T.d_token_number ["tokens", "text"] (sp_token_number K T.C_NotUsable) := by
  refine T.F_token_number.okX sc_token_number (fun vs H Q E h => ?_) (fun cdv A outer s H vs Q E hr h => ?_)
  · obtain ⟨t, ts, x, d, rfl, _⟩ := h; rfl
  · obtain ⟨t, ts, x, d, rfl, hT, hl, hd, hz, q1, q2⟩ := h
    refine ⟨_, (pss_cons (ps_expr (pe_call (ok_ask_text T) hr rfl T.g_ask_text T.F_ask_text.kp T.b_ask_text .nil (passes_call (takes_of rfl rfl rfl rfl) (fun _ _ _ _ h => h)) (pa_cons (pv 1) pa_nil)))
    (pss_one (ps_ret (pe_dget2 (hu_of hr) (pe_call (ok_token_numbers T) (hr.mono (by decide)) rfl T.g_token_numbers T.F_token_numbers.kp T.b_token_numbers .nil pass0 (pa_cons (pv 0) pa_nil)) (pv 1) (pe_un un_neg pe_int) ⟨rfl, rfl, rfl, rfl⟩)))), ?_⟩
    refine ⟨x, rfl, x, d, rfl, hd, hz, fun e hn H' sm => ?_, fun hn H' dd sm n => q2 hn H' dd sm n⟩
    cases d
    case str z =>
      cases hd
      have hT' := seqT_grow sm hT
      refine ⟨.ref t, rfl, t, ts, rfl, hT', hl, fun D H2 s2 hD => ?_⟩
      refine ⟨D, rfl, .inl ⟨_, .inl hD⟩, .str z, rfl, ?_⟩
      refine ⟨1, rfl, _, .inl ⟨_, .inr z, .inl hD, rfl, rfl⟩, ?_⟩
      have e2 := tabN_at ts z ts.length
      have q' := q1 z rfl e hn H2 (sm.trans s2)
      show Q ((valV (tabN ts ts.length) (.inr z)).getD (.int (-1))) H2
      rw [e2]
      exact q'
    all_goals cases e
def sp_joined (K : PySem.W.Frag) : Sp := fun vs H Q _ => ∃ (t r : Addr) (ts : List Str) (is : List Int), vs = [.ref t, .ref r] ∧ SqT K H t (ts.map V.str) ∧ SqT K H r (is.map V.int) ∧ is.length ≤ 60 ∧ (∀ i ∈ is, 0 ≤ i ∧ i < ts.length) ∧ (∀ z ∈ ts, z.length ≤ 100) ∧
  ∀ H', Same H H' → Q (.str (rowS ts is)) H'
theorem ok_joined (T : Tx K mg) : FnOk P w K mg base CX0 1 T.f_joined T.d_joined ["tokens", "row"] (sp_joined K) := by
  refine T.F_joined.ok sc_joined (fun vs H Q E h => ?_) (fun cdv A outer s H vs Q E hr h => ?_)
  · obtain ⟨t, r, ts, is, rfl, _⟩ := h; rfl
  · obtain ⟨t, r, ts, is, rfl, hT, hR, hl, hi, hz, q⟩ := h
    refine ⟨_, (pss_one (ps_ret (pe_join pe_str (pe_lc (own := [("token", 2)]) (g := gName 2) (tt := tYes) (by rfl) sc_joined.nd (pi_tup (pv 1)) (blkOk_by (N := ["tokens", "row", "token"]) (sc := defScope s_joined) (by decide +kernel)) (fun _ _ _ _ _ => (pg_name (i := 2) sc_joined.nd rfl (Or.inl rfl))) (fun _ _ _ _ _ => pts_nil) (fun _ _ _ _ _ => (pe_ix (ix_tupK (K := K) rfl) (pv 0) (pv 2) (fun _ _ => rfl))))))), ?_⟩
    refine ⟨⟨"", rfl⟩, .ref r, rfl, r, rfl, ⟨_, hR⟩, fun D nD => ?_⟩
    have sm : Same H (upd H D (.lst [])) := same_new nD
    refine comp_tup (K := K) (a := r) (xs := is.map V.int) (i := 2) (fun acc H' => Same H H' ∧ acc = ((is.take acc.length).map fun i => V.str (ts.getD i.toNat ""))) ⟨sm, rfl⟩ (fun acc H' h => seqT_grow h.1 hR) (fun acc y H' e h hD => ?_) (fun acc H' e h hD => ?_)
    · obtain ⟨i, ei, rfl⟩ : ∃ i, is[acc.length]? = some i ∧ V.int i = y := by
        rw [List.getElem?_map] at e
        cases ez : is[acc.length]? with
        | none => rw [ez] at e; cases e
        | some z => rw [ez] at e; exact ⟨z, rfl, Option.some.inj e⟩
      have lt : acc.length < is.length := (List.getElem?_eq_some_iff.mp ei).1
      obtain ⟨i0, i1⟩ := hi i (List.mem_of_getElem? ei)
      have el : (ts.map V.str)[i.toNat]? = some (V.str (ts.getD i.toNat "")) := by
        have lt2 : i.toNat < ts.length := by omega
        rw [List.getElem?_map, List.getElem?_eq_getElem lt2, List.getD_eq_getElem?_getD, List.getElem?_eq_getElem lt2]
        rfl
      have ei2 : atI (ts.map V.str) i = some (V.str (ts.getD i.toNat "")) := by
        have e0 : i = ((i.toNat : Nat) : Int) := by omega
        rw [e0]
        exact atI_nat el
      refine ⟨.ref t, rfl, .int i, rfl, t, _, i, _, rfl, rfl, seqT_grow h.1 hT, ei2, ?_⟩
      refine turned hD (small (by omega)) ⟨fun b o eb => ?_, ?_⟩
      · rw [upd_ne (ne_of_none eb nD)]
        exact h.1 b o eb
      · rw [List.length_append, List.length_singleton, List.take_add_one, ei, List.map_append, ← h.2]
        rfl
    · rw [List.length_map] at e
      refine ⟨"", D, is.map fun i => ts.getD i.toNat "", rfl, rfl, .inl (.inl (.inl ?_)), ?_, ?_⟩
      · rw [hD, h.2, e, List.take_length, List.map_map]
        rfl
      · have a := rowL_len ts 100 hz is
        have b : (Str.ofString "").length = 0 := by rfl
        rw [b, Nat.mul_zero]
        omega
      · rw [join_row]
        exact q H' h.1
def sp_row_text (K : PySem.W.Frag) (C : Addr) : Sp := fun vs H Q E => ∃ (t : Addr) (ts : List Str) (x : V) (d : PyData), vs = [.ref t, x] ∧ SqT K H t (ts.map V.str) ∧ (∀ z ∈ ts, z.length ≤ 100) ∧ Dp K H x d ∧ lenD d ≤ 1000 ∧
  (∀ is : List Int, d = .tuple (is.map PyData.int) → rowD ts.length d = true → ∀ H', Same H H' → Q (.str (rowS ts is)) H') ∧ (rowD ts.length d = false → Refuses C E H "row")
theorem ok_row_text (T : Tx K mg) : FnOk P w K mg base (L2.CX P w) 6 T.f_row_text T.d_row_text ["tokens", "row"] (sp_row_text K T.C_NotUsable) := by
  refine T.F_row_text.okX sc_row_text (fun vs H Q E h => ?_) (fun cdv A outer s H vs Q E hr h => ?_)
  · obtain ⟨t, ts, x, d, rfl, _⟩ := h; rfl
  · obtain ⟨t, ts, x, d, rfl, hT, hz, hd, hl, q1, q2⟩ := h
    refine ⟨_, (pss_cons (ps_expr (pe_call (ok_ask_row T) hr rfl T.g_ask_row T.F_ask_row.kp T.b_ask_row .nil (passes_call (takes_of rfl rfl rfl rfl) (fun _ _ _ _ h => h)) (pa_cons (pv 0) (pa_cons (pv 1) pa_nil))))
    (pss_one (ps_ret (pe_call (ok_joined T) (hr.mono (by decide)) rfl T.g_joined T.F_joined.kp T.b_joined .nil pass0 (pa_cons (pv 0) (pa_cons (pv 1) pa_nil)))))), ?_⟩
    refine ⟨.ref t, rfl, x, rfl, t, _, x, d, rfl, hT, hd, hl, fun e H' sm => ?_, fun e H' dd sm n => q2 (by rw [List.length_map] at e; exact e) H' dd sm n⟩
    rw [List.length_map] at e
    obtain ⟨is, ed, hi⟩ := rowD_ints e
    obtain ⟨a, xs, ex, hs, ha⟩ : ∃ a xs, x = .ref a ∧ SqT K H a xs ∧ DpAll K H xs (is.map PyData.int) := by
      rw [ed] at hd
      cases hd with
      | tup hs ha => exact ⟨_, _, rfl, hs, ha⟩
    subst ex
    rw [ints_of_dp ha] at hs
    have l60 : is.length ≤ 60 := by
      rw [ed] at e
      have e' : (_ && decide ((is.map PyData.int).length ≤ 60)) = true := e
      rw [Bool.and_eq_true, List.length_map] at e'
      exact of_decide_eq_true e'.2
    exact ⟨.ref t, rfl, .ref a, rfl, t, a, ts, is, rfl, seqT_grow sm hT, seqT_grow sm hs, l60, hi, hz, fun H2 s2 => q1 is ed e H2 (sm.trans s2)⟩
end
end K1
set_option Elab.async false
set_option linter.all false
set_option maxRecDepth 100000
set_option maxHeartbeats 2000000
namespace K1
open PySem PySem.Spec PyProof.Rows L2 Ver LamX
def TT (P : Addr) : List (Addr × Str) := [(P, "by_length" ++ ".<locals>." ++ "<lambda>")]
structure Tb {K : PySem.W.Frag} {mg : Str → Option Value} (T : Tx K mg) (base : Heap) (cc cP : Addr) : Prop where
  code : T.d_by_length.code = .ref cc
  tab : TabB base mg cc cP
section
variable {P : Program} {w : World} {K : PySem.W.Frag} {mg : Str → Option Value} {base : Heap}
def sp_by_length (K : PySem.W.Frag) (cP : Addr) : Sp := fun vs H Q _ => ∃ (a : Addr) (xs : List Str), vs = [.ref a] ∧ H a = some (.lst (xs.map V.str)) ∧ (∀ x ∈ xs, x.length ≤ 1000) ∧ Tabs (TT cP) H ∧
  ∀ (H2 : Hp) (ys : List Str) (p : Addr), ExtN H H2 → Tabs (TT cP) H2 → ys.Perm xs → ys.Pairwise leLen → H2 p = some (.lst (ys.map V.str)) → Q (.ref p) H2
theorem ok_by_length {cc cP : Addr} (T : Tx K mg) (TB : Tb T base cc cP) : FnOk P w K mg base CX0 1 T.f_by_length T.d_by_length ["things"] (sp_by_length K cP) := by
  refine Fun.okC T.F_by_length TB.code sc_by_length (fun vs H Q E h => ?_) (fun A outer s H vs Q E hr h => ?_)
  · obtain ⟨a, xs, rfl, _⟩ := h; rfl
  · obtain ⟨a, xs, rfl, ha, hl, hT, q⟩ := h
    refine ⟨_, (pss_one (ps_ret (pe_sortLen (T := TT cP) hr TB.tab rfl (List.mem_singleton.mpr rfl) (fun p hp _ => by rw [List.mem_singleton.mp hp] <;> rfl) (by rfl) T.n_sorted T.n_len (pv 0)))), ?_⟩
    refine ⟨.ref a, rfl, a, xs, rfl, ha, fun x hx => small' (Nat.le_trans (hl x hx) (by decide)), hT, fun H2 ys p e t pm pw n => ?_⟩
    exact q _ ys p (e.trans (ExtN.of (same_new n))) (t.ext (same_new n)) pm pw upd_same
def sp_inner_texts (K : PySem.W.Frag) (cP : Addr) : Sp := fun vs H Q _ => ∃ (t : Addr) (ts : List Str), vs = [.ref t] ∧ SqT K H t (ts.map V.str) ∧ ts.length ≤ 200 ∧ (∀ z ∈ ts, z.length ≤ 12) ∧ Tabs (TT cP) H ∧
  ∀ (H2 : Hp) (R : List Str) (p : Addr), ExtN H H2 → Tabs (TT cP) H2 → Inner ts R → H2 p = some (.tup (R.map V.str)) → Q (.ref p) H2
theorem ok_inner_texts {cc cP : Addr} (T : Tx K mg) (TB : Tb T base cc cP) : FnOk P w K mg base CX0 2 T.f_inner_texts T.d_inner_texts ["tokens"] (sp_inner_texts K cP) := by
  refine T.F_inner_texts.ok sc_inner_texts (fun vs H Q E h => ?_) (fun cdv A outer s H vs Q E hr h => ?_)
  · obtain ⟨t, ts, rfl, _⟩ := h; rfl
  · obtain ⟨t, ts, rfl, hT, hl, hz, hB, q⟩ := h
    refine ⟨_, (pss_cons (ps_setSc2 (i := 1) (own := [("token", 2), ("k", 3)]) (g := gName 2) (g1 := gName 3) (vs1 := [3]) rfl sc_inner_texts.nd rfl rfl (sw_trueS rfl rfl rfl (by decide +kernel)) (pi_tup (pv 0)) (blkOk_by (N := ["tokens", "found", "token", "k"]) (sc := defScope s_inner_texts) (by decide +kernel)) (by decide) (fun _ _ _ _ _ => (pg_name (i := 2) sc_inner_texts.nd rfl (Or.inl rfl))) (fun _ _ _ _ _ => (pi_range1 rfl T.n_range (pa_cons (pe_callB call_len_str (by rfl) T.n_len (by decide +kernel) (pa_cons (pv 2) pa_nil)) pa_nil))) (fun _ _ _ _ _ => (pg_name (i := 3) sc_inner_texts.nd rfl (Or.inl rfl))) (fun _ _ _ _ _ => (pe_slice C8.sl_txt (pv 2) po_none (po_some (pv 3)))))
    (pss_one (ps_ret (pe_callTy call_tuple_of (by rfl) T.n_tuple (by decide +kernel) (pa_cons (pe_call (ok_by_length T TB) hr rfl T.g_by_length T.F_by_length.kp T.b_by_length .nil pass0 (pa_cons (pe_callB (cr_sortTx (by rfl)) (by rfl) T.n_sorted (by decide +kernel) (pa_cons (pv 1) pa_nil)) pa_nil)) pa_nil))))), ?_⟩
    refine ⟨.ref t, rfl, t, rfl, ⟨_, hT⟩, fun D nD => ?_⟩
    have s0 := same_new (o := TxO P w D []) nD
    refine it_tup (K := K) (a := t) (xs := ts.map V.str) (fun i H' => Same H H' ∧ ∃ l : List Str, H' D = some (TxO P w D l) ∧ l.Nodup ∧ (∀ z, z ∈ l ↔ IsInner (ts.take i) z) ∧ l.length ≤ 12 * i)
      ⟨s0, [], upd_same, List.nodup_nil, fun z => ⟨fun h => absurd h (by simp), fun ⟨t, ht, _⟩ => absurd ht (by simp)⟩, by simp⟩ (fun i H' h => seqT_grow h.1 hT) (fun i x H' e h => ?_) (fun H' h => ?_)
    · obtain ⟨s1, l, hD, nd, mem, len⟩ := h
      obtain ⟨z, ez, rfl⟩ : ∃ z, ts[i]? = some z ∧ V.str z = x := by
        rw [List.getElem?_map] at e
        cases ez : ts[i]? with
        | none => rw [ez] at e; cases e
        | some z => rw [ez] at e; exact ⟨z, rfl, Option.some.inj e⟩
      have lt : i < ts.length := (List.getElem?_eq_some_iff.mp ez).1
      have z12 : z.length ≤ 12 := hz z (List.mem_of_getElem? ez)
      refine ⟨by rfl, .str z, rfl, z, rfl, small' (by omega), z.length, rfl, by omega, by omega, ?_⟩
      refine it_range (n := ((z.length : Nat) : Int).toNat) (fun j H' => Same H H' ∧ ∃ l : List Str, H' D = some (TxO P w D l) ∧ l.Nodup ∧ (∀ y, y ∈ l ↔ IsInner (ts.take i) y ∨ ∃ k, k < j ∧ y = takeS z k) ∧ l.length ≤ 12 * i + j)
        ⟨s1, l, hD, nd, fun y => ⟨fun h => .inl ((mem y).mp h), fun h => h.elim (mem y).mpr fun ⟨k, hk, _⟩ => absurd hk (Nat.not_lt_zero k)⟩, by omega⟩ (fun j H2 ltj h => ?_) (fun H2 h => ?_)
      · obtain ⟨s2, l2, hD2, nd2, mem2, len2⟩ := h
        have es : Txt.slice z none (some (j : Int)) = takeS z j := by
          have e9 := SX.slice_to (a := z.cps.toList) (i := (j : Int)) (by omega)
          rw [SX.S_tl] at e9
          rw [e9]
          rfl
        have sb : 3000 < scanBound := by decide
        refine ⟨by rfl, .str z, rfl, .int (j : Int), rfl, (j : Int), rfl, z, rfl, small' (by omega), takeS z j, l2, by rw [es], hD2, by omega, ?_⟩
        refine ⟨fun b o eb => ?_, _, upd_same, ?_, fun y => ?_, ?_⟩
        · rw [upd_ne (ne_of_none eb nD)]
          exact s2 b o eb
        · split
          · exact nd2
          · rename_i hn
            exact List.nodup_cons.mpr ⟨hn, nd2⟩
        · have step : (∃ k, k < j + 1 ∧ y = takeS z k) ↔ ((∃ k, k < j ∧ y = takeS z k) ∨ y = takeS z j) := by
            constructor
            · rintro ⟨k, hk, e9⟩
              rcases Nat.lt_or_eq_of_le (Nat.le_of_lt_succ hk) with h | h
              · exact .inl ⟨k, h, e9⟩
              · exact .inr (h ▸ e9)
            · rintro (⟨k, hk, e9⟩ | e9)
              · exact ⟨k, Nat.lt_succ_of_lt hk, e9⟩
              · exact ⟨j, Nat.lt_succ_self j, e9⟩
          rw [step]
          split
          · rename_i hm
            rw [mem2 y]
            constructor
            · rintro (h | h)
              · exact .inl h
              · exact .inr (.inl h)
            · rintro (h | h | h)
              · exact .inl h
              · exact .inr h
              · rw [h]
                exact (mem2 _).mp hm
          · rw [List.mem_cons, mem2 y]
            constructor
            · rintro (h | h | h)
              · exact .inr (.inr h)
              · exact .inl h
              · exact .inr (.inl h)
            · rintro (h | h | h)
              · exact .inr (.inl h)
              · exact .inr (.inr h)
              · exact .inl h
        · split
          · omega
          · rw [List.length_cons]; omega
      · obtain ⟨s2, l2, hD2, nd2, mem2, len2⟩ := h
        have ej : ((z.length : Nat) : Int).toNat = z.length := by omega
        rw [ej] at mem2 len2
        refine ⟨s2, l2, hD2, nd2, fun y => (mem2 y).trans ?_, by omega⟩
        rw [List.take_add_one, ez]
        constructor
        · rintro (⟨t, ht, k, hk, e⟩ | ⟨k, hk, e⟩)
          · exact ⟨t, List.mem_append_left _ ht, k, hk, e⟩
          · exact ⟨z, List.mem_append_right _ (List.mem_singleton.mpr rfl), k, hk, e⟩
        · rintro ⟨t9, ht, k, hk, e9⟩
          rcases List.mem_append.mp ht with ht | ht
          · exact .inl ⟨t9, ht, k, hk, e9⟩
          · have e8 : t9 = z := List.mem_singleton.mp ht
            exact .inr ⟨k, e8 ▸ hk, e8 ▸ e9⟩
    · obtain ⟨s1, l, hD, nd, mem, len⟩ := h
      rw [List.length_map] at mem len
      rw [List.take_length] at mem
      refine ⟨.ref D, rfl, D, l, rfl, hD, fun ys p pm pw np => ?_⟩
      have s2 := s1.trans (same_new (o := .lst (ys.map V.str)) np)
      refine ⟨p, ys, rfl, upd_same, fun x hx => ?_, hB.ext s2, fun H3 zs r ex tb pm2 pw2 hr => ?_⟩
      · obtain ⟨t9, ht, k, hk, e9⟩ := (mem x).mp (pm.mem_iff.mp hx)
        have := hz t9 ht
        rw [e9, takeS_len (Nat.le_of_lt hk)]
        omega
      refine ⟨r, zs.map V.str, rfl, .inl ⟨.inl (.inl hr), fun L nL => ?_⟩⟩
      have pm3 := pm2.trans pm
      exact q _ zs L (((ExtN.of s2).trans ex).trans (ExtN.of (same_new nL))) (tb.ext (same_new nL)) ⟨pm3.nodup_iff.mpr nd, fun z => pm3.mem_iff.trans (mem z), pw2⟩ upd_same
end
end K1
set_option Elab.async false
set_option linter.all false
set_option maxRecDepth 100000
set_option maxHeartbeats 2000000
namespace K1
open PySem PySem.Spec PyProof.Rows L2 Ver LamX
def TokS (z : Str) : Prop := 1 ≤ z.length ∧ z.length ≤ 12 ∧ ∀ c ∈ z.cps.toList, signN c = true
def Toks (ts : List Str) : Prop := 1 ≤ ts.length ∧ ts.length ≤ 120 ∧ ∀ z ∈ ts, TokS z
def allS : Str := match defBody s__law_all with | [.Return (some (.Constant (.str z) _ _)) _] => z | _ => ""
theorem allS_len : allS.length = 94 := by decide +kernel
theorem allS_signs : allS.cps.toList.all signN = true := by decide +kernel
def GoodS (sg : Str) : Prop := 1 ≤ sg.length ∧ sg.length ≤ 100 ∧ ∀ c ∈ sg.cps.toList, signN c = true
theorem allS_good : GoodS allS := ⟨by rw [allS_len]; decide, by rw [allS_len]; decide, fun c hc => List.all_eq_true.mp allS_signs c hc⟩
theorem sl_all : ∀ f : Fin 92, (Txt.slice allS (some (f.val : Int)) (some ((f.val : Int) + 2))).length = 2 ∧ (Txt.slice allS (some (f.val : Int)) (some ((f.val : Int) + 2))).cps.toList.all signN = true := by decide +kernel
theorem sl_good {f : Int} (h0 : 0 ≤ f) (h1 : f < 92) : GoodS (Txt.slice allS (some f) (some (f + 2))) := by
  have h := sl_all ⟨f.toNat, by omega⟩
  have e : ((f.toNat : Nat) : Int) = f := by omega
  simp only [e] at h
  exact ⟨by rw [h.1]; decide, by rw [h.1]; decide, fun c hc => List.all_eq_true.mp h.2 c hc⟩
theorem one_good {sg : Str} {i : Int} {c : Nat} (h : GoodS sg) (e : atI sg.cps.toList i = some c) : GoodS ⟨#[c]⟩ := ⟨by show 1 ≤ 1; decide, by show 1 ≤ 100; decide, fun d hd => by
  have : d = c := List.mem_singleton.mp hd
  rw [this]
  exact h.2.2 c (atI_mem e)⟩
theorem Drawn.back {p D : Addr} {H H' : Hp} (d : Drawn p H H') (n : H' D = none) : H D = none := by
  cases e : H D with
  | none => rfl
  | some o =>
    by_cases q : D = p
    · obtain ⟨ns, _, _, h⟩ := d.2
      rw [q, h] at n
      cases n
    · rw [d.1 D o q e] at n
      cases n
theorem seq_via {t u : TS} {D : Ends} {σ : L2.St} {H : Hp} (I : L2.St → Hp → Prop) (h1 : ∀ C : L2.St → Hp → Prop, (∀ σ' H', I σ' H' → C σ' H') → t { D with nx := C } σ H) (h2 : ∀ σ' H', I σ' H' → u D σ' H') : tSeq t u D σ H := h1 _ h2
section
variable {P : Program} {w : World} {K : PySem.W.Frag} {mg : Str → Option Value} {base : Heap}
def sp__law_all (K : PySem.W.Frag) : Sp := fun vs H Q _ => vs = [] ∧ Q (.str allS) H
theorem ok__law_all (T : Tx K mg) : FnOk P w K mg base CX0 1 T.f__law_all T.d__law_all [] (sp__law_all K) := by
  refine T.F__law_all.ok sc__law_all (fun vs H Q E h => ?_) (fun cdv A outer s H vs Q E hr h => ?_)
  · obtain ⟨rfl, _⟩ := h; rfl
  · obtain ⟨rfl, q⟩ := h
    refine ⟨_, (pss_one (ps_ret pe_str)), ?_⟩
    exact q
def sp__law_drawn_tokens (K : PySem.W.Frag) : Sp := fun vs H Q _ => ∃ p : Addr, vs = [.ref p] ∧ Pool H p ∧ ∀ (t : Addr) (ts : List Str) H', Toks ts → Drawn p H H' → H' t = some (.tup (ts.map V.str)) → Q (.ref t) H'
theorem ok__law_drawn_tokens (T : Tx K mg) : FnOk P w K mg base CX0 4 T.f__law_drawn_tokens T.d__law_drawn_tokens ["pool"] (sp__law_drawn_tokens K) := by
  refine T.F__law_drawn_tokens.ok sc__law_drawn_tokens (fun vs H Q E h => ?_) (fun cdv A outer s H vs Q E hr h => ?_)
  · obtain ⟨p, rfl, _⟩ := h; rfl
  · obtain ⟨p, rfl, hP, q⟩ := h
    refine ⟨_, (pss_cons (ps_set (i := 1) sc__law_drawn_tokens.nd rfl (Or.inr rfl) (pe_call0 (ok__law_all T) (hr.mono (by decide)) rfl T.g__law_all T.F__law_all.kp T.b__law_all .nil pass0))
    (pss_cons (ps_set (i := 2) sc__law_drawn_tokens.nd rfl (Or.inl rfl) (pe_call (ok__law_pick T) (hr.mono (by decide)) rfl T.g__law_pick T.F__law_pick.kp T.b__law_pick .nil pass0 (pa_cons (pv 0) (pa_cons pe_int pa_nil))))
    (pss_cons (ps_set (i := 3) sc__law_drawn_tokens.nd rfl (Or.inl rfl) (pe_call (ok__law_pick T) (hr.mono (by decide)) rfl T.g__law_pick T.F__law_pick.kp T.b__law_pick .nil pass0 (pa_cons (pv 0) (pa_cons pe_int pa_nil))))
    (pss_cons (ps_set (i := 4) sc__law_drawn_tokens.nd rfl (Or.inl rfl) (pe_slice C8.sl_txt (pv 1) (po_some (pv 3)) (po_some (pe_op op_add (pv 3) pe_int))))
    (pss_cons (ps_if (pt_cmpR op_eq (pv 2) pe_int (nomark _)) (pss_one (ps_set (i := 4) sc__law_drawn_tokens.nd rfl (Or.inl rfl) (pv 1))) pss_nil)
    (pss_cons (ps_if (pt_cmpR op_eq (pv 2) pe_int (nomark _)) (pss_one (ps_set (i := 4) sc__law_drawn_tokens.nd rfl (Or.inl rfl) (pe_ix ix_str (pv 1) (pv 3) (fun _ _ => rfl)))) pss_nil)
    (pss_cons (ps_set (i := 5) sc__law_drawn_tokens.nd rfl (Or.inl rfl) (pe_call (ok__law_pick T) (hr.mono (by decide)) rfl T.g__law_pick T.F__law_pick.kp T.b__law_pick .nil pass0 (pa_cons (pv 0) (pa_cons pe_int pa_nil))))
    (pss_cons (ps_if (pt_cmpR op_eq (pv 5) pe_int (nomark _)) (pss_one (ps_ret (pe_callTy call_tuple_of (by rfl) T.n_tuple (by decide +kernel) (pa_cons (pe_lc (own := [("k", 8)]) (g := gName 8) (tt := tYes) (by rfl) sc__law_drawn_tokens.nd (pi_range1 rfl T.n_range (pa_cons pe_int pa_nil)) (blkOk_by (N := ["pool", "letters", "kind", "first", "signs", "big", "tokens", "long", "k"]) (sc := defScope s__law_drawn_tokens) (by decide +kernel)) (fun _ _ _ _ _ => (pg_name (i := 8) sc__law_drawn_tokens.nd rfl (Or.inl rfl))) (fun _ _ _ _ _ => pts_nil) (fun _ _ _ _ _ => (pe_op op_add_str (pe_ix ix_str (pv 1) (pe_op op_add (pe_op op_fdivN (pv 8) pe_int) pe_int) (fun _ _ => rfl)) (pe_ix ix_str (pv 1) (pe_op op_add (pe_op op_modN (pe_callTy call_int1 (by rfl) T.n_int (by decide +kernel) (pa_cons (pv 8) pa_nil)) pe_int) pe_int) (fun _ _ => rfl))))) pa_nil)))) pss_nil)
    (pss_cons (ps_set (i := 6) sc__law_drawn_tokens.nd rfl (Or.inl rfl) (pe_call (ok__law_tokens T) hr rfl T.g__law_tokens T.F__law_tokens.kp T.b__law_tokens .nil pass0 (pa_cons (pv 0) (pa_cons (pe_op op_add pe_int (pe_call (ok__law_pick T) (hr.mono (by decide)) rfl T.g__law_pick T.F__law_pick.kp T.b__law_pick .nil pass0 (pa_cons (pv 0) (pa_cons pe_int pa_nil)))) (pa_cons (pv 4) (pa_cons (pe_ifExp (pt_cmpR op_eq (pv 5) pe_int (nomark _)) pe_int pe_int) pa_nil))))))
    (pss_cons (ps_if (pt_cmpR op_eq (pv 5) pe_int (nomark _)) (pss_cons (ps_set (i := 7) sc__law_drawn_tokens.nd rfl (Or.inl rfl) (pe_op op_add_str (pe_op op_repC (pe_ix ix_str (pv 4) pe_int (fun _ _ => rfl)) pe_int) (pe_ix ix_str (pv 4) (pe_un un_neg pe_int) (fun _ _ => rfl))))
    (pss_one (ps_if (pt_cmpR op_notIn_seq (pv 7) (pv 6) (by rfl)) (pss_one (ps_set (i := 6) sc__law_drawn_tokens.nd rfl (Or.inl rfl) (pe_op op_catA (pe_tup (pa_cons (pv 7) pa_nil)) (pv 6)))) pss_nil))) pss_nil)
    (pss_one (ps_ret (pv 6))))))))))))), ?_⟩
    refine ⟨rfl, ?_⟩
    refine ⟨.ref p, rfl, p, 4, rfl, hP, by decide, by decide, fun kd H1 k0 k1 d1 f1 => ?_⟩
    refine ⟨.ref p, rfl, p, 92, rfl, d1.2, by decide, by decide, fun f H2 g0 g1 d2 f2 => ?_⟩
    have d12 := d1.trans d2
    refine ⟨.str allS, rfl, .int f, rfl, f, rfl, .int f, rfl, f, 2, rfl, rfl, f + 2, rfl, allS, rfl, small' (by rw [allS_len]; decide), ?_⟩
    refine seq_via (fun σ' H' => H' = H2 ∧ ∃ sg, GoodS sg ∧ σ' = [some (.ref p), some (.str allS), some (.int kd), some (.int f), some (.str sg), none, none, none, none]) (fun C hC => ?_) (fun σ' H' h => ?_)
    · exact hC _ _ ⟨rfl, _, sl_good g0 g1, rfl⟩
    obtain ⟨rfl, sg0, hg0, rfl⟩ := h
    refine seq_via (fun σ' H2 => H2 = H' ∧ ∃ sg, GoodS sg ∧ σ' = [some (.ref p), some (.str allS), some (.int kd), some (.int f), some (.str sg), none, none, none, none]) (fun C hC => ?_) (fun σ' H2 h => ?_)
    · refine ⟨.int kd, rfl, rfl, _, rfl, ?_⟩
      refine ite2 (fun _ => ⟨.str allS, rfl, ?_⟩) (fun _ => ?_)
      · exact hC _ _ ⟨rfl, _, allS_good, rfl⟩
      · exact hC _ _ ⟨rfl, _, hg0, rfl⟩
    obtain ⟨rfl, sg1, hg1, rfl⟩ := h
    refine seq_via (fun σ' H' => H' = H2 ∧ ∃ sg, GoodS sg ∧ σ' = [some (.ref p), some (.str allS), some (.int kd), some (.int f), some (.str sg), none, none, none, none]) (fun C hC => ?_) (fun σ' H' h => ?_)
    · refine ⟨.int kd, rfl, rfl, _, rfl, ?_⟩
      refine ite2 (fun _ => ?_) (fun _ => ?_)
      · obtain ⟨c, ec⟩ := sign_at (sg := allS) g0 (by rw [allS_len]; omega)
        exact ⟨.str allS, rfl, .int f, rfl, allS, f, c, rfl, rfl, small' (by rw [allS_len]; decide), ec, hC _ _ ⟨rfl, _, one_good allS_good ec, rfl⟩⟩
      · exact hC _ _ ⟨rfl, _, hg1, rfl⟩
    obtain ⟨rfl, sg, hg, rfl⟩ := h
    refine ⟨.ref p, rfl, p, 16, rfl, d12.2, by decide, by decide, fun big H3 b0 b1 d3 f3 => ?_⟩
    have d123 := d12.trans d3
    refine ⟨.int big, rfl, rfl, _, rfl, ?_⟩
    refine ite2 (fun _ => ?_) (fun _ => ?_)
    · refine ⟨120, rfl, by decide, by decide, fun D nD => ?_⟩
      refine comp_range (n := 120) (i := 8) (fun acc H' => Drawn p H H' ∧ ∃ ws : List Str, acc = ws.map V.str ∧ ∀ z ∈ ws, TokS z) ⟨d123.same (same_new nD), [], rfl, fun z hz => absurd hz (by simp)⟩ (fun acc H' lt h hD => ?_) (fun acc H' e h hD => ?_)
      · obtain ⟨d4, ws, rfl, hw⟩ := h
        have q1 : (((ws.map V.str).length : Nat) : Int).fdiv 12 = (((ws.map V.str).length : Nat) : Int) / 12 := Int.fdiv_eq_ediv_of_nonneg _ (by decide)
        have q2 : (((ws.map V.str).length : Nat) : Int).fmod 12 = (((ws.map V.str).length : Nat) : Int) % 12 := Int.fmod_eq_emod_of_nonneg _ (by decide)
        obtain ⟨c1, ec1⟩ := sign_at (sg := allS) (i := (((ws.map V.str).length : Nat) : Int).fdiv 12 + 3) (by omega) (by rw [allS_len]; omega)
        obtain ⟨c2, ec2⟩ := sign_at (sg := allS) (i := (((ws.map V.str).length : Nat) : Int).fmod 12 + 40) (by omega) (by rw [allS_len]; omega)
        refine ⟨.str allS, rfl, .int _, rfl, _, 12, rfl, rfl, ⟨by decide, by omega⟩, _, 3, rfl, rfl, allS, _, c1, rfl, rfl, small' (by rw [allS_len]; decide), ec1, ?_⟩
        refine ⟨.str allS, rfl, .int _, rfl, .inl ⟨_, rfl, _, 12, rfl, rfl, (by show (12 : Int) ≠ 0; decide), _, 40, rfl, rfl, allS, _, c2, rfl, rfl, small' (by rw [allS_len]; decide), ec2, ⟨#[c1]⟩, ⟨#[c2]⟩, rfl, rfl, (by show 1 + 1 ≤ sizeLine; decide), ?_⟩⟩
        refine turned hD (small (by omega)) ⟨d4.at (d123.back nD) (d3.2.ne_none nD), ws ++ [(⟨#[c1]⟩ : Str) ++ ⟨#[c2]⟩], by rw [List.map_append]; rfl, fun z hz => ?_⟩
        rcases List.mem_append.mp hz with h | h
        · exact hw z h
        · rw [List.mem_singleton.mp h]
          have el : ((⟨#[c1]⟩ : Str) ++ ⟨#[c2]⟩).length = 2 := Str.length_append _ _
          refine ⟨by rw [el]; decide, by rw [el]; decide, fun c hc => ?_⟩
          have et : ((⟨#[c1]⟩ : Str) ++ ⟨#[c2]⟩).cps.toList = [c1, c2] := TL.tl_append ⟨#[c1]⟩ ⟨#[c2]⟩
          rw [et] at hc
          rcases List.mem_cons.mp hc with h | h
          · rw [h]; exact allS_good.2.2 _ (atI_mem ec1)
          · rw [List.mem_singleton.mp h]; exact allS_good.2.2 _ (atI_mem ec2)
      · obtain ⟨d4, ws, rfl, hw⟩ := h
        rw [List.length_map] at e
        refine ⟨D, ws.map V.str, rfl, .inl ⟨.inl (.inl hD), fun L nL => ?_⟩⟩
        exact q L ws _ ⟨by omega, by omega, hw⟩ (d4.same (same_new nL)) upd_same
    refine seq_via (fun σ' H' => H' = H3 ∧ σ' = [some (.ref p), some (.str allS), some (.int kd), some (.int f), some (.str sg), some (.int big), none, none, none]) (fun C hC => hC _ _ ⟨rfl, rfl⟩) (fun σ' H' h => ?_)
    obtain ⟨rfl, rfl⟩ := h
    refine seq_via (fun σ' H' => ∃ t ts, Toks ts ∧ ts.length ≤ 7 ∧ Drawn p H H' ∧ H' t = some (.tup (ts.map V.str)) ∧ σ' = [some (.ref p), some (.str allS), some (.int kd), some (.int f), some (.str sg), some (.int big), some (.ref t), none, none]) (fun C hC => ?_) (fun σ' H4 h => ?_)
    · refine ⟨.ref p, rfl, .ref p, rfl, p, 6, rfl, d3.2, by decide, by decide, fun r H4 r0 r1 d4 f4 => ⟨1, r, rfl, rfl, .str sg, rfl, .int big, rfl, rfl, _, rfl, ?_⟩⟩
      have tok : ∀ (m : Int) (ts : List Str), m ≤ 6 → (ts.length : Int) = 1 + r → (∀ z ∈ ts, 1 ≤ z.length ∧ (z.length : Int) ≤ m + (1 + r) ∧ FromS sg z) → Toks ts := fun m ts hm el hw =>
        ⟨by omega, by omega, fun z hz => ⟨(hw z hz).1, by have := (hw z hz).2.1; omega, fun c hc => hg.2.2 c ((hw z hz).2.2 c hc)⟩⟩
      refine ite2 (fun _ => ?_) (fun _ => ?_)
      · exact ⟨p, 1 + r, sg, 6, rfl, d4.2, hg.1, hg.2.1, by decide, by decide, by omega, by omega, fun t ts H5 el hw d5 ht => hC _ _ ⟨t, ts, tok 6 ts (by decide) el hw, by omega, (d123.trans d4).trans d5, ht, rfl⟩⟩
      · exact ⟨p, 1 + r, sg, 3, rfl, d4.2, hg.1, hg.2.1, by decide, by decide, by omega, by omega, fun t ts H5 el hw d5 ht => hC _ _ ⟨t, ts, tok 3 ts (by decide) el hw, by omega, (d123.trans d4).trans d5, ht, rfl⟩⟩
    obtain ⟨t, ts, hts, h7, d4, ht, rfl⟩ := h
    refine seq_via (fun σ' H' => ∃ t ts y7, Toks ts ∧ Drawn p H H' ∧ H' t = some (.tup (ts.map V.str)) ∧ σ' = [some (.ref p), some (.str allS), some (.int kd), some (.int f), some (.str sg), some (.int big), some (.ref t), y7, none]) (fun C hC => ?_) (fun σ' H5 h => ?_)
    · refine ⟨.int big, rfl, rfl, _, rfl, ?_⟩
      refine ite2 (fun _ => ?_) (fun _ => ?_)
      · obtain ⟨c0, ec0⟩ := sign_at (sg := sg) (i := 0) (by omega) (by have := hg.1; omega)
        have l0 : sg.cps.toList ≠ [] := fun z => by
          have e1 : sg.length = sg.cps.toList.length := by rw [Array.length_toList]; rfl
          have := hg.1
          rw [e1, z] at this
          exact absurd this (by decide)
        have ec1 : atI sg.cps.toList (-1) = some (sg.cps.toList.getLast l0) := by
          have e9 := atI_last (sg.cps.toList.dropLast) (sg.cps.toList.getLast l0)
          rw [List.dropLast_concat_getLast] at e9
          exact e9
        generalize sg.cps.toList.getLast l0 = c1 at ec1
        refine ⟨.str sg, rfl, sg, 0, c0, rfl, rfl, small' (by have := hg.2.1; omega), ec0, c0, 11, rfl, rfl, by decide, by decide, .str sg, rfl, 1, rfl, sg, -1, c1, rfl, rfl, small' (by have := hg.2.1; omega), ec1, repC c0 11, ⟨#[c1]⟩, rfl, rfl, ?_, ?_⟩
        · rw [repC_len]; show 11 + 1 ≤ sizeLine; decide
        generalize elo : (repC c0 11 ++ (⟨#[c1]⟩ : Str)) = long
        have tl : TokS long := by
          have el : long.length = 12 := by
            rw [← elo, Str.length_append, repC_len]
            rfl
          refine ⟨by omega, by omega, fun c hc => ?_⟩
          have et : long.cps.toList = (repC c0 11).cps.toList ++ [c1] := by
            rw [← elo]
            exact TL.tl_append _ ⟨#[c1]⟩
          rw [et] at hc
          rcases List.mem_append.mp hc with h | h
          · rw [repC_mem h]; exact hg.2.2 _ (atI_mem ec0)
          · rw [List.mem_singleton.mp h]; exact hg.2.2 _ (atI_mem ec1)
        refine ⟨.str long, rfl, .ref t, rfl, t, ts.map V.str, rfl, .inr (.inl (.inl ht)), rfl, flat_strs ts, _, rfl, ?_⟩
        refine ite2 (fun _ => ?_) (fun _ => hC _ _ ⟨t, ts, _, hts, d4, ht, rfl⟩)
        refine ⟨.str long, rfl, (by show 1 ≤ sizeLine; decide), fun L nL => ?_⟩
        have s1 := same_new (o := .tup [V.str long]) nL
        refine ⟨.ref t, rfl, L, t, [V.str long], ts.map V.str, rfl, rfl, .inl (.inl upd_same), .inl (.inl (s1 _ _ ht)), ?_, (fun z => by cases z), (fun _ z => ?_), fun _ _ M nM => ?_⟩
        · rw [List.length_map]
          have := hts.2.1
          exact small' (by show 1 + ts.length ≤ 100000; omega)
        · have e9 := congrArg List.length z
          rw [List.length_map] at e9
          have := hts.1
          simp at e9
          rw [e9] at this
          exact absurd this (by decide)
        · exact hC _ _ ⟨M, long :: ts, _, ⟨by simp, by rw [List.length_cons]; omega, fun z hz => (List.mem_cons.mp hz).elim (fun e => e ▸ tl) (hts.2.2 z)⟩, (d4.same s1).same (same_new nM), upd_same, rfl⟩
      · exact hC _ _ ⟨t, ts, none, hts, d4, ht, rfl⟩
    obtain ⟨t, ts, y7, hts, d5, ht, rfl⟩ := h
    exact ⟨.ref t, rfl, q t ts H5 hts d5 ht⟩
end
end K1
set_option Elab.async false
set_option linter.all false
set_option maxRecDepth 100000
set_option maxHeartbeats 2000000
namespace K1
open PySem PySem.Spec PyProof.Rows L2 Ver
def noD (z : Str) : PyData := .list [.str "refused", .str z]
theorem no_at {K : PySem.W.Frag} {H : Hp} {L : Addr} {z : Str} (h : H L = some (.lst [.str "refused", .str z])) : Dp K H (.ref L) (noD z) := .lst (.inl (.inl h)) (.cons (.str _) (.cons (.str _) .nil))
theorem rowL_snoc (ts : List Str) (is : List Int) (i : Int) : rowL ts (is ++ [i]) = rowL ts is ++ (ts.getD i.toNat "").cps.toList := by
  unfold rowL
  rw [List.flatMap_append]
  simp
theorem inV_strs (s : Str) : ∀ l : List Str, inV (.str s) (l.map V.str) = decide (s ∈ l)
  | [] => rfl
  | x :: l => by
    have ih := inV_strs s l
    show (eqV (.str x) (.str s) || inV (.str s) (l.map V.str)) = _
    rw [ih]
    have e1 : eqV (.str x) (.str s) = decide (x = s) := by
      show (x == s) = decide (x = s)
      by_cases h : x = s
      · subst h; simp
      · rw [decide_eq_false h]; exact beq_eq_false_iff_ne.mpr h
    rw [e1]
    by_cases h : x = s
    · subst h; simp
    · have h' : ¬ s = x := fun q => h q.symm
      rw [decide_eq_false h, Bool.false_or]
      simp [h']
theorem slice_takeS (z : Str) (j : Nat) : Txt.slice z none (some (j : Int)) = takeS z j := by
  have e9 := SX.slice_to (a := z.cps.toList) (i := (j : Int)) (by omega)
  rw [SX.S_tl] at e9
  rw [e9]
  rfl
section
variable {P : Program} {w : World} {K : PySem.W.Frag} {mg : Str → Option Value} {base : Heap}
def sp__law_number (K : PySem.W.Frag) : Sp := fun vs H Q _ => ∃ (t : Addr) (ts : List Str) (z : Str), vs = [.ref t, .str z] ∧ SqT K H t (ts.map V.str) ∧ ts.length ≤ 1000 ∧ Q (.int (numAt ts z ts.length)) H
theorem ok__law_number (T : Tx K mg) : FnOk P w K mg base CX0 1 T.f__law_number T.d__law_number ["tokens", "text"] (sp__law_number K) := by
  refine T.F__law_number.ok sc__law_number (fun vs H Q E h => ?_) (fun cdv A outer s H vs Q E hr h => ?_)
  · obtain ⟨t, ts, z, rfl, _⟩ := h; rfl
  · obtain ⟨t, ts, z, rfl, hT, hl, q⟩ := h
    refine ⟨_, (pss_cons (ps_set (i := 2) sc__law_number.nd rfl (Or.inl rfl) (pe_un un_neg pe_int))
    (pss_cons (ps_for PassesOwn.never rfl (pi_range1 rfl T.n_range (pa_cons (pe_callB call_len_seq (by rfl) T.n_len (by decide +kernel) (pa_cons (pv 0) pa_nil)) pa_nil)) (pg_name (i := 3) sc__law_number.nd rfl (Or.inl rfl))
    (pss_one (ps_if (pt_cmpR op_eq (pe_ix ix_tup (pv 0) (pv 3) (fun _ _ => rfl)) (pv 1) (nomark _)) (pss_one (ps_set (i := 2) sc__law_number.nd rfl (Or.inl rfl) (pv 3))) pss_nil)))
    (pss_one (ps_ret (pv 2))))), ?_⟩
    refine ⟨1, rfl, .ref t, rfl, t, _, rfl, .inr hT, _, rfl, by rw [List.length_map]; omega, by rw [List.length_map]; omega, ?_⟩
    refine for_range0 (n := ((((ts.map V.str).length : Nat)) : Int).toNat) (fun i σ H' => H' = H ∧ ∃ y, σ = [some (.ref t), some (.str z), some (.int (numAt ts z i)), y]) ⟨rfl, none, rfl⟩ (fun i σ H' lt h => ?_) (fun σ H' h => ?_)
    · obtain ⟨rfl, y, rfl⟩ := h
      rw [List.length_map] at lt
      have lt' : i < ts.length := by omega
      have ei : (ts.map V.str)[i]? = some (V.str ts[i]) := by rw [List.getElem?_map, List.getElem?_eq_getElem lt']; rfl
      refine ⟨.ref t, rfl, .int (i : Nat), rfl, t, _, (i : Nat), _, rfl, rfl, hT, atI_nat ei, .str z, rfl, rfl, _, rfl, ?_⟩
      have step : numAt ts z (i + 1) = if ts[i]? = some z then (i : Int) else numAt ts z i := rfl
      refine ite2 (fun e => ⟨.int (i : Nat), rfl, rfl, some (.int (i : Nat)), ?_⟩) (fun e => ⟨rfl, some (.int (i : Nat)), ?_⟩)
      · have e1 : V.str ts[i] = V.str z := of_decide_eq_true e
        have e2 : ts[i] = z := by injection e1
        rw [step, if_pos (by rw [List.getElem?_eq_getElem lt', e2])]
        rfl
      · have e2 : ¬ ts[i]? = some z := fun q => e (decide_eq_true (by
          rw [List.getElem?_eq_getElem lt'] at q
          rw [Option.some.inj q]))
        rw [step, if_neg e2]
        rfl
    · obtain ⟨rfl, y, rfl⟩ := h
      have e : ((((ts.map V.str).length : Nat)) : Int).toNat = ts.length := by rw [List.length_map]; omega
      rw [e]
      exact ⟨_, rfl, q⟩
def sp__law_number_told (K : PySem.W.Frag) : Sp := fun vs H Q _ => ∃ (t : Addr) (ts : List Str) (x : V) (d : PyData) (b : Bool), vs = [.ref t, x, .bl b] ∧ SqT K H t (ts.map V.str) ∧ ts.length ≤ 1000 ∧ Dp K H x d ∧ lenT d ≤ 5000 ∧
  (∀ z, d = .str z → textD d = true → z.length ≤ 1200 → ∀ H', Same H H' → Q (.int (numAt ts z ts.length)) H') ∧ (¬ (textD d = true ∧ lenT d ≤ 1200) → ∀ v H', Same H H' → Dp K H' v (noD "text") → Q v H')
theorem ok__law_number_told (T : Tx K mg) : FnOk P w K mg base CX0 5 T.f__law_number_told T.d__law_number_told ["tokens", "text", "named"] (sp__law_number_told K) := by
  refine T.F__law_number_told.ok sc__law_number_told (fun vs H Q E h => ?_) (fun cdv A outer s H vs Q E hr h => ?_)
  · obtain ⟨t, ts, x, d, b, rfl, _⟩ := h; rfl
  · obtain ⟨t, ts, x, d, b, rfl, hT, hl, hd, hz, q1, q2⟩ := h
    refine ⟨_, (pss_one (ps_try_as (i := 3) (Wout := fun _ _ _ _ => False) rfl rfl sc__law_number_told.nd rfl rfl ⟨rfl, by decide, Or.inl T.nus.gC⟩ takes0
    (fun W pn xe tk _ => (pss_cons (ps_if (pt_val (pv 2)) (pss_one (ps_ret (pe_callKw (ok_token_number T) hr rfl T.g_token_number T.F_token_number.kp T.k_token_number (fun σ => passAt tk σ) (pk_cons (pv 1) (pk_cons (pv 0) pk_nil))))) pss_nil)
    (pss_one (ps_ret (pe_callS (ok_token_number T) hr rfl T.g_token_number T.F_token_number.kp T.b_token_number (fun σ => passAt tk σ) (pa_cons (pv 0) (pa_cons (pv 1) pa_nil)))))))
    (fun a oe cls d pn hz hf => (pss_one (ps_ret (pe_lst (pa_cons pe_str (pa_cons (pe_byNus T.nus hz hf (pv 3)) pa_nil)))))))), ?_⟩
    refine ⟨.bl b, rfl, b, rfl, ?_⟩
    cases b with
    | true =>
      refine ⟨x, rfl, .ref t, rfl, rfl, t, ts, x, d, rfl, hT, hl, hd, hz, q1, fun k => ?_⟩
      exact fun H' dd sm n => ⟨true, T.nus.te, fun _ u hu => ⟨.ref u, rfl, rfl, rfl, dd, _, rfl, upd_same, small' (by simp), fun L nL => q2 k _ _ ((sm.trans (same_new n)).trans (same_new nL)) (no_at upd_same)⟩, fun z => Bool.noConfusion z⟩
    | false =>
      refine ⟨.ref t, rfl, x, rfl, t, ts, x, d, rfl, hT, hl, hd, hz, q1, fun k => ?_⟩
      exact fun H' dd sm n => ⟨true, T.nus.te, fun _ u hu => ⟨.ref u, rfl, rfl, rfl, dd, _, rfl, upd_same, small' (by simp), fun L nL => q2 k _ _ ((sm.trans (same_new n)).trans (same_new nL)) (no_at upd_same)⟩, fun z => Bool.noConfusion z⟩
def sp__law_text_told (K : PySem.W.Frag) : Sp := fun vs H Q _ => ∃ (t : Addr) (ts : List Str) (x : V) (d : PyData) (b : Bool), vs = [.ref t, x, .bl b] ∧ SqT K H t (ts.map V.str) ∧ (∀ z ∈ ts, z.length ≤ 100) ∧ Dp K H x d ∧ lenD d ≤ 1000 ∧
  (∀ is : List Int, d = .tuple (is.map PyData.int) → rowD ts.length d = true → ∀ H', Same H H' → Q (.str (rowS ts is)) H') ∧ (rowD ts.length d = false → ∀ v H', Same H H' → Dp K H' v (noD "row") → Q v H')
theorem ok__law_text_told (T : Tx K mg) : FnOk P w K mg base CX0 7 T.f__law_text_told T.d__law_text_told ["tokens", "row", "named"] (sp__law_text_told K) := by
  refine T.F__law_text_told.ok sc__law_text_told (fun vs H Q E h => ?_) (fun cdv A outer s H vs Q E hr h => ?_)
  · obtain ⟨t, ts, x, d, b, rfl, _⟩ := h; rfl
  · obtain ⟨t, ts, x, d, b, rfl, hT, hl, hd, hz, q1, q2⟩ := h
    refine ⟨_, (pss_one (ps_try_as (i := 3) (Wout := fun _ _ _ _ => False) rfl rfl sc__law_text_told.nd rfl rfl ⟨rfl, by decide, Or.inl T.nus.gC⟩ takes0
    (fun W pn xe tk _ => (pss_cons (ps_if (pt_val (pv 2)) (pss_one (ps_ret (pe_callKw (ok_row_text T) hr rfl T.g_row_text T.F_row_text.kp T.k_row_text (fun σ => passAt tk σ) (pk_cons (pv 1) (pk_cons (pv 0) pk_nil))))) pss_nil)
    (pss_one (ps_ret (pe_callS (ok_row_text T) hr rfl T.g_row_text T.F_row_text.kp T.b_row_text (fun σ => passAt tk σ) (pa_cons (pv 0) (pa_cons (pv 1) pa_nil)))))))
    (fun a oe cls d pn hz hf => (pss_one (ps_ret (pe_lst (pa_cons pe_str (pa_cons (pe_byNus T.nus hz hf (pv 3)) pa_nil)))))))), ?_⟩
    refine ⟨.bl b, rfl, b, rfl, ?_⟩
    cases b with
    | true =>
      refine ⟨x, rfl, .ref t, rfl, rfl, t, ts, x, d, rfl, hT, hl, hd, hz, q1, fun k => ?_⟩
      exact fun H' dd sm n => ⟨true, T.nus.te, fun _ u hu => ⟨.ref u, rfl, rfl, rfl, dd, _, rfl, upd_same, small' (by simp), fun L nL => q2 k _ _ ((sm.trans (same_new n)).trans (same_new nL)) (no_at upd_same)⟩, fun z => Bool.noConfusion z⟩
    | false =>
      refine ⟨.ref t, rfl, x, rfl, t, ts, x, d, rfl, hT, hl, hd, hz, q1, fun k => ?_⟩
      exact fun H' dd sm n => ⟨true, T.nus.te, fun _ u hu => ⟨.ref u, rfl, rfl, rfl, dd, _, rfl, upd_same, small' (by simp), fun L nL => q2 k _ _ ((sm.trans (same_new n)).trans (same_new nL)) (no_at upd_same)⟩, fun z => Bool.noConfusion z⟩
def sp__law_letters (K : PySem.W.Frag) : Sp := fun vs H Q _ => ∃ (t r : Addr) (ts : List Str) (is : List Int), vs = [.ref t, .ref r] ∧ SqT K H t (ts.map V.str) ∧ SqT K H r (is.map V.int) ∧ is.length ≤ 60 ∧ (∀ i ∈ is, 0 ≤ i ∧ i < ts.length) ∧ (∀ z ∈ ts, z.length ≤ 100) ∧ Q (.str (rowS ts is)) H
theorem ok__law_letters (T : Tx K mg) : FnOk P w K mg base CX0 1 T.f__law_letters T.d__law_letters ["tokens", "row"] (sp__law_letters K) := by
  refine T.F__law_letters.ok sc__law_letters (fun vs H Q E h => ?_) (fun cdv A outer s H vs Q E hr h => ?_)
  · obtain ⟨t, r, ts, is, rfl, _⟩ := h; rfl
  · obtain ⟨t, r, ts, is, rfl, hT, hR, hl, hi, hz, q⟩ := h
    refine ⟨_, (pss_cons (ps_set (i := 2) sc__law_letters.nd rfl (Or.inl rfl) pe_str)
    (pss_cons (ps_for PassesOwn.never rfl (pi_tup (pv 1)) (pg_name (i := 3) sc__law_letters.nd rfl (Or.inl rfl))
    (pss_one (ps_for PassesOwn.never rfl (pi_str (pe_ix ix_tup (pv 0) (pv 3) (fun _ _ => rfl))) (pg_name (i := 4) sc__law_letters.nd rfl (Or.inl rfl))
    (pss_one (ps_set (i := 2) sc__law_letters.nd rfl (Or.inl rfl) (pe_op op_add_str (pv 2) (pv 4)))))))
    (pss_one (ps_ret (pv 2))))), ?_⟩
    refine ⟨.ref r, rfl, r, rfl, ⟨_, hR⟩, ?_⟩
    refine for_tup (K := K) (a := r) (xs := is.map V.int) (fun i σ H' => H' = H ∧ ∃ y3 y4, σ = [some (.ref t), some (.ref r), some (.str (SX.S (rowL ts (is.take i)))), y3, y4] ∧ (rowL ts (is.take i)).length ≤ 100 * i) ⟨rfl, none, none, rfl, Nat.zero_le _⟩ (fun i σ H' _ h => h.1 ▸ hR) (fun i x σ H' e h => ?_) (fun σ H' h => ?_)
    · obtain ⟨rfl, y3, y4, rfl, hlen⟩ := h
      obtain ⟨k, ek, rfl⟩ : ∃ k, is[i]? = some k ∧ V.int k = x := by
        rw [List.getElem?_map] at e
        cases ez : is[i]? with
        | none => rw [ez] at e; cases e
        | some z => rw [ez] at e; exact ⟨z, rfl, Option.some.inj e⟩
      have lti : i < is.length := (List.getElem?_eq_some_iff.mp ek).1
      obtain ⟨k0, k1⟩ := hi k (List.mem_of_getElem? ek)
      have ltk : k.toNat < ts.length := by omega
      have et : (ts.map V.str)[k.toNat]? = some (V.str ts[k.toNat]) := by rw [List.getElem?_map, List.getElem?_eq_getElem ltk]; rfl
      have e0 : ((k.toNat : Nat) : Int) = k := by omega
      have eat := atI_nat et
      rw [e0] at eat
      have eg : ts.getD k.toNat "" = ts[k.toNat] := by rw [List.getD_eq_getElem?_getD, List.getElem?_eq_getElem ltk]; rfl
      have hzk := hz _ (List.getElem_mem ltk)
      have es : rowL ts (is.take (i + 1)) = rowL ts (is.take i) ++ ts[k.toNat].cps.toList := by rw [List.take_add_one, ek]; show rowL ts (is.take i ++ [k]) = _; rw [rowL_snoc, eg]
      generalize ts[k.toNat] = tok at et eat eg hzk es
      have ltok : tok.cps.toList.length = tok.length := by rw [Array.length_toList]; rfl
      refine ⟨.ref t, rfl, .int k, rfl, t, _, k, _, rfl, rfl, hT, eat, tok, rfl, ?_⟩
      refine for_str (x := tok) (fun j σ H'' => H'' = H' ∧ ∃ y4, σ = [some (.ref t), some (.ref r), some (.str (SX.S (rowL ts (is.take i) ++ tok.cps.toList.take j))), some (.int k), y4]) ⟨rfl, y4, by rw [List.take_zero, List.append_nil]; rfl⟩ (fun j c σ H'' ec h => ?_) (fun σ H'' h => ?_)
      · obtain ⟨rfl, y4, rfl⟩ := h
        have ec2 : tok.cps.toList[j]? = some c := by rw [Array.getElem?_toList]; exact ec
        have ltj : j < tok.cps.toList.length := (List.getElem?_eq_some_iff.mp ec2).1
        refine ⟨.str (SX.S (rowL ts (is.take i) ++ tok.cps.toList.take j)), rfl, .str ⟨#[c]⟩, rfl, _, _, rfl, rfl, ?_, rfl, some (.str ⟨#[c]⟩), ?_⟩
        · rw [SX.S_len, List.length_append, List.length_take]
          exact small' (by show _ + 1 ≤ 100000; omega)
        · have e9 : SX.S (rowL ts (is.take i) ++ tok.cps.toList.take j) ++ (⟨#[c]⟩ : Str) = SX.S (rowL ts (is.take i) ++ tok.cps.toList.take (j + 1)) := by
            rw [List.take_add_one, ec2, ← List.append_assoc]
            exact SX.S_cat _ [c]
          rw [e9]
          rfl
      · obtain ⟨rfl, y4, rfl⟩ := h
        refine ⟨rfl, some (.int k), y4, ?_, ?_⟩
        · rw [es, ← ltok, List.take_length]
        · rw [es, List.length_append, ltok]
          omega
    · obtain ⟨rfl, y3, y4, rfl, _⟩ := h
      rw [List.length_map, List.take_length]
      exact ⟨_, rfl, q⟩
def sp__law_inner (K : PySem.W.Frag) : Sp := fun vs H Q _ => ∃ (t : Addr) (ts : List Str), vs = [.ref t] ∧ SqT K H t (ts.map V.str) ∧ Toks ts ∧ ∀ (R : List Str) (p : Addr) H', Same H H' → Inner ts R → H' p = some (.tup (R.map V.str)) → Q (.ref p) H'
theorem ok__law_inner (T : Tx K mg) : FnOk P w K mg base CX0 1 T.f__law_inner T.d__law_inner ["tokens"] (sp__law_inner K) := by
  refine T.F__law_inner.ok sc__law_inner (fun vs H Q E h => ?_) (fun cdv A outer s H vs Q E hr h => ?_)
  · obtain ⟨t, ts, rfl, _⟩ := h; rfl
  · obtain ⟨t, ts, rfl, hT, hts, q⟩ := h
    refine ⟨_, (pss_cons (ps_set (i := 1) sc__law_inner.nd rfl (Or.inl rfl) (pe_lst pa_nil))
    (pss_cons (ps_for PassesOwn.never rfl (pi_range1 rfl T.n_range (pa_cons pe_int pa_nil)) (pg_name (i := 2) sc__law_inner.nd rfl (Or.inl rfl))
    (pss_cons (ps_set (i := 3) sc__law_inner.nd rfl (Or.inl rfl) (pe_lst pa_nil))
    (pss_cons (ps_for PassesOwn.never rfl (pi_tup (pv 0)) (pg_name (i := 4) sc__law_inner.nd rfl (Or.inl rfl))
    (pss_one (ps_if (PW.pt (pw_and (pt_cmpR op_gt (pe_callB call_len_str (by rfl) T.n_len (by decide +kernel) (pa_cons (pv 4) pa_nil)) (pv 2) (nomark _)) (pw_and1 (pt_cmpR op_notIn_seq (pe_slice C8.sl_txt (pv 4) po_none (po_some (pv 2))) (pv 3) (by rfl))))) (pss_one (ps_expr (pe_bm PySem.F.plainAttrs_list PySem.F.slot_list_append PySem.F.type_list_append mt_append (pv 3) (pa_cons (pe_slice C8.sl_txt (pv 4) po_none (po_some (pv 2))) pa_nil)))) pss_nil)))
    (pss_one (ps_expr (pe_bm PySem.F.plainAttrs_list PySem.F.slot_list_extend PySem.F.type_list_extend mt_extend (pv 1) (pa_cons (pe_callB cr_sortS (by rfl) T.n_sorted (by decide +kernel) (pa_cons (pv 3) pa_nil)) pa_nil)))))))
    (pss_one (ps_ret (pe_callTy call_tuple_of (by rfl) T.n_tuple (by decide +kernel) (pa_cons (pv 1) pa_nil)))))), ?_⟩
    refine ⟨Nat.zero_le _, fun L nL => ?_⟩
    have sL := same_new (o := .lst []) nL
    refine ⟨12, rfl, by decide, by decide, ?_⟩
    refine for_range0 (n := (12 : Int).toNat) (fun n σ H' => ∃ ds y2 y3 y4, σ = [some (.ref t), some (.ref L), y2, y3, y4] ∧ Same H H' ∧ H' L = some (.lst (ds.map V.str)) ∧ ds.Nodup ∧ (∀ z, z ∈ ds ↔ IsInner ts z ∧ z.length < n) ∧ ds.Pairwise leLen ∧ ds.length ≤ 120 * n)
      ⟨[], none, none, none, rfl, sL, upd_same, List.nodup_nil, fun z => ⟨fun h => absurd h (by simp), fun h => absurd h.2 (Nat.not_lt_zero _)⟩, .nil, Nat.zero_le _⟩ (fun n σ H' ltn h => ?_) (fun σ H' h => ?_)
    · obtain ⟨ds, y2, y3, y4, rfl, sm, hL, nd, mem, pw, len⟩ := h
      refine ⟨Nat.zero_le _, fun F nF => ?_⟩
      have sF := same_new (o := .lst []) nF
      have FL : L ≠ F := ne_of_none hL nF
      refine ⟨.ref t, rfl, t, rfl, ⟨_, seqT_grow (sm.trans sF) hT⟩, ?_⟩
      refine for_tup (K := K) (a := t) (xs := ts.map V.str) (fun i σ H'' => ∃ fs y4, σ = [some (.ref t), some (.ref L), some (.int (n : Nat)), some (.ref F), y4] ∧ Same H H'' ∧ H'' L = some (.lst (ds.map V.str)) ∧ H'' F = some (.lst (fs.map V.str)) ∧ fs.Nodup ∧ (∀ z, z ∈ fs ↔ ∃ k ∈ ts.take i, n < k.length ∧ z = takeS k n) ∧ fs.length ≤ i)
        ⟨[], y4, rfl, sm.trans sF, sF _ _ hL, upd_same, List.nodup_nil, fun z => ⟨fun h => absurd h (by simp), fun ⟨k, hk, _⟩ => absurd hk (by simp)⟩, Nat.zero_le _⟩ (fun i σ H'' _ h => ?_) (fun i x σ H'' e h => ?_) (fun σ H'' h => ?_)
      · obtain ⟨fs, y4, _, s2, _⟩ := h
        exact seqT_grow s2 hT
      · obtain ⟨fs, y4, rfl, s2, hL2, hF, ndf, memf, lenf⟩ := h
        obtain ⟨z, ez, rfl⟩ : ∃ z, ts[i]? = some z ∧ V.str z = x := by
          rw [List.getElem?_map] at e
          cases ez : ts[i]? with
          | none => rw [ez] at e; cases e
          | some z => rw [ez] at e; exact ⟨z, rfl, Option.some.inj e⟩
        have z12 := (hts.2.2 z (List.mem_of_getElem? ez)).2.1
        have lti : i < ts.length := (List.getElem?_eq_some_iff.mp ez).1
        have hl120 := hts.2.1
        have step : ∀ y, (∃ k ∈ ts.take (i + 1), n < k.length ∧ y = takeS k n) ↔ ((∃ k ∈ ts.take i, n < k.length ∧ y = takeS k n) ∨ (n < z.length ∧ y = takeS z n)) := fun y => by
          rw [List.take_add_one, ez]
          constructor
          · rintro ⟨k, hk, h1, h2⟩
            rcases List.mem_append.mp hk with hk | hk
            · exact .inl ⟨k, hk, h1, h2⟩
            · have e8 : k = z := List.mem_singleton.mp hk
              exact .inr ⟨e8 ▸ h1, e8 ▸ h2⟩
          · rintro (⟨k, hk, h⟩ | h)
            · exact ⟨k, List.mem_append_left _ hk, h⟩
            · exact ⟨z, List.mem_append_right _ (List.mem_singleton.mpr rfl), h⟩
        refine ⟨.str z, rfl, z, rfl, small' (by omega), .int (n : Nat), rfl, (z.length : Nat), (n : Nat), rfl, rfl, _, rfl, ?_⟩
        refine ite2 (fun e1 => ?_) (fun e1 => ?_)
        · have gt : n < z.length := by have := of_decide_eq_true e1; omega
          refine ⟨.str z, rfl, .int (n : Nat), rfl, (n : Nat), rfl, z, rfl, small' (by omega), .ref F, rfl, F, fs.map V.str, rfl, .inl (.inl (.inl hF)), rfl, flat_strs fs, _, rfl, ?_⟩
          rw [slice_takeS]
          show (if (!inV (.str (takeS z n)) (fs.map V.str)) = true then _ else _)
          rw [inV_strs]
          refine ite2 (fun e2 => ?_) (fun e2 => ?_)
          · have nm : takeS z n ∉ fs := by simpa using e2
            refine ⟨.ref F, rfl, .inl ⟨rfl, _, .inl (.inl hF)⟩, .str z, rfl, .int (n : Nat), rfl, (n : Nat), rfl, z, rfl, small' (by omega), F, _, _, rfl, rfl, hF, small (by rw [List.length_map]; omega), ?_⟩
            refine ⟨fs ++ [takeS z n], some (.str z), rfl, ?_, ?_, ?_, ?_, fun y => ?_, ?_⟩
            · intro b o eb
              have h1 : H' b = some o := sm _ _ eb
              rw [upd_ne (ne_of_none h1 nF)]
              exact s2 _ _ eb
            · rw [upd_ne FL]
              exact hL2
            · rw [upd_same, List.map_append, slice_takeS]
              rfl
            · exact List.nodup_append.mpr ⟨ndf, List.pairwise_singleton _ _, fun a ha b hb => by rw [List.mem_singleton.mp hb]; exact fun q => nm (q ▸ ha)⟩
            · rw [List.mem_append, List.mem_singleton, step, memf]
              exact ⟨fun h => h.imp id fun q => ⟨gt, q⟩, fun h => h.imp id fun q => q.2⟩
            · rw [List.length_append]
              show fs.length + 1 ≤ i + 1
              omega
          · have im : takeS z n ∈ fs := by simpa using e2
            refine ⟨fs, some (.str z), rfl, s2, hL2, hF, ndf, fun y => ?_, by omega⟩
            rw [step, memf]
            refine ⟨.inl, fun h => h.elim id fun q => ?_⟩
            rw [q.2]
            exact (memf _).mp im
        · have ngt : ¬ n < z.length := fun q => e1 (decide_eq_true (by omega))
          refine ⟨fs, some (.str z), rfl, s2, hL2, hF, ndf, fun y => ?_, by omega⟩
          rw [step, memf]
          exact ⟨.inl, fun h => h.elim id fun q => absurd q.1 ngt⟩
      · obtain ⟨fs, y4, rfl, s2, hL2, hF, ndf, memf, lenf⟩ := h
        rw [List.length_map] at memf lenf
        rw [List.take_length] at memf
        have hl120 := hts.2.1
        refine ⟨.ref L, rfl, .inl ⟨rfl, _, .inl (.inl hL2)⟩, .ref F, rfl, F, fs, rfl, .inl (.inl hF), fun ys p pm pws np => ?_⟩
        have sp := same_new (o := .lst (ys.map V.str)) np
        have memy : ∀ y, y ∈ ys ↔ ∃ k ∈ ts, n < k.length ∧ y = takeS k n := fun y => pm.mem_iff.trans (memf y)
        have leny : ∀ y ∈ ys, y.length = n := fun y hy => by
          obtain ⟨k, _, h1, h2⟩ := (memy y).mp hy
          rw [h2, takeS_len (Nat.le_of_lt h1)]
        have lp := pm.length_eq
        refine ⟨L, p, ds.map V.str, ys.map V.str, rfl, rfl, sp _ _ hL2, upd_same, ?_, ?_⟩
        · rw [List.length_map, List.length_map]
          have : n < 12 := ltn
          exact small' (by omega)
        refine ⟨ds ++ ys, some (.int (n : Nat)), some (.ref F), y4, rfl, ?_, ?_, ?_, fun y => ?_, ?_, ?_⟩
        · intro b o eb
          rw [upd_ne (ne_of_none eb nL)]
          exact sp _ _ (s2 _ _ eb)
        · rw [upd_same, List.map_append]
        · exact List.nodup_append.mpr ⟨nd, pm.nodup_iff.mpr ndf, fun a ha b hb q => by
            have h1 := ((mem a).mp ha).2
            rw [q, leny b hb] at h1
            exact Nat.lt_irrefl _ h1⟩
        · rw [List.mem_append, mem, memy]
          constructor
          · rintro (⟨h1, h2⟩ | ⟨k, hk, h1, h2⟩)
            · exact ⟨h1, Nat.lt_succ_of_lt h2⟩
            · exact ⟨⟨k, hk, n, h1, h2⟩, by rw [h2, takeS_len (Nat.le_of_lt h1)]; exact Nat.lt_succ_self n⟩
          · rintro ⟨⟨k, hk, j, h1, h2⟩, h3⟩
            have lj : y.length = j := by rw [h2, takeS_len (Nat.le_of_lt h1)]
            rcases Nat.lt_or_eq_of_le (Nat.le_of_lt_succ h3) with h | h
            · exact .inl ⟨⟨k, hk, j, h1, h2⟩, h⟩
            · have ej : j = n := lj.symm.trans h
              exact .inr ⟨k, hk, ej ▸ h1, ej ▸ h2⟩
        · refine List.pairwise_append.mpr ⟨pw, ?_, fun a ha b hb => .inl (by rw [leny b hb]; exact ((mem a).mp ha).2)⟩
          exact List.Pairwise.imp_of_mem (fun {a b} ha hb h => .inr ⟨by rw [leny a ha, leny b hb], h⟩) pws
        · rw [List.length_append]
          have : ts.length ≤ 120 := hl120
          omega
    · obtain ⟨ds, y2, y3, y4, rfl, sm, hL, nd, mem, pw, len⟩ := h
      refine ⟨.ref L, rfl, L, ds.map V.str, rfl, .inl ⟨.inl (.inl hL), fun M nM => ?_⟩⟩
      refine q ds M _ (sm.trans (same_new nM)) ⟨nd, fun z => (mem z).trans ⟨fun h => h.1, fun h => ⟨h, ?_⟩⟩, pw⟩ upd_same
      obtain ⟨k, hk, j, h1, h2⟩ := h
      have := (hts.2.2 k hk).2.1
      show z.length < 12
      rw [h2, takeS_len (Nat.le_of_lt h1)]
      omega
end
end K1
set_option Elab.async false
set_option linter.all false
set_option maxRecDepth 100000
set_option maxHeartbeats 4000000
namespace K1
open PySem PySem.Spec PyProof.Rows L2 Ver
theorem nodup_len {α : Type} [DecidableEq α] : ∀ {l m : List α}, l.Nodup → l ⊆ m → l.length ≤ m.length
  | [], _, _, _ => Nat.zero_le _
  | x :: l, m, nd, sub => by
    obtain ⟨n1, n2⟩ := List.nodup_cons.mp nd
    have hx := sub List.mem_cons_self
    have p := List.perm_cons_erase hx
    have : l.length ≤ (m.erase x).length := nodup_len n2 fun y hy => (List.mem_erase_of_ne (fun e => n1 (by rw [← e]; exact hy))).mpr (sub (List.mem_cons_of_mem _ hy))
    rw [p.length_eq, List.length_cons, List.length_cons]
    omega
theorem leLen_anti {a b : Str} (h1 : leLen a b) (h2 : leLen b a) : a = b := by
  rcases h1 with h1 | ⟨e1, h1⟩
  · rcases h2 with h2 | ⟨e2, h2⟩ <;> omega
  · rcases h2 with h2 | ⟨e2, h2⟩
    · omega
    · exact Ver.str_of_list (List.le_antisymm (List.not_lt.mp h1) (List.not_lt.mp h2))
theorem inner_unique {ts R S : List Str} (a : Inner ts R) (b : Inner ts S) : R = S :=
  List.Perm.eq_of_pairwise (le := leLen) (fun x y _ _ h1 h2 => leLen_anti h1 h2) a.ord b.ord ((List.perm_ext_iff_of_nodup a.nd b.nd).mpr fun z => (a.mem z).trans (b.mem z).symm)
theorem inner_some {ts R : List Str} (h : Toks ts) (a : Inner ts R) : ∀ z ∈ R, z.length ≤ 11 ∧ ∀ c ∈ z.cps.toList, signN c = true := fun z hz => by
  obtain ⟨k, hk, j, h1, h2⟩ := (a.mem z).mp hz
  obtain ⟨_, h12, hs⟩ := h.2.2 k hk
  refine ⟨by rw [h2, takeS_len (Nat.le_of_lt h1)]; omega, fun c hc => ?_⟩
  rw [h2] at hc
  exact hs c (List.mem_of_mem_take hc)
theorem inner_len {ts R : List Str} (h : Toks ts) (a : Inner ts R) : R.length ≤ 1440 := by
  have sub : R ⊆ ts.flatMap fun t => (List.range t.length).map (takeS t) := fun z hz => by
    obtain ⟨k, hk, j, h1, h2⟩ := (a.mem z).mp hz
    exact List.mem_flatMap.mpr ⟨k, hk, List.mem_map.mpr ⟨j, List.mem_range.mpr h1, h2.symm⟩⟩
  have l1 : R.length ≤ (ts.flatMap fun t => (List.range t.length).map (takeS t)).length := nodup_len a.nd sub
  have l2 : ∀ l : List Str, (∀ z ∈ l, z.length ≤ 12) → (l.flatMap fun t => (List.range t.length).map (takeS t)).length ≤ 12 * l.length := fun l => by
    induction l with
    | nil => intro _; exact Nat.le_refl _
    | cons x l ih =>
      intro hl
      rw [List.flatMap_cons, List.length_append, List.length_map, List.length_range, List.length_cons]
      have := hl x List.mem_cons_self
      have := ih fun z hz => hl z (List.mem_cons_of_mem _ hz)
      omega
  have := l2 ts fun z hz => (h.2.2 z hz).2.1
  have := h.2.1
  omega
def offP (p : Addr) (H : Hp) : Hp := fun b => if b = p then none else H b
theorem offP_at {p A : Addr} {H : Hp} {o : HO} (ne : p ≠ A) (h : H A = some o) : offP p H A = some o := by
  unfold offP
  rw [if_neg (Ne.symm ne)]
  exact h
theorem offP_none {p : Addr} {H : Hp} : offP p H p = none := by unfold offP; rw [if_pos rfl]
theorem offP_same {p : Addr} {H : Hp} : Same (offP p H) H := fun b o e => by
  unfold offP at e
  split at e
  · cases e
  · exact e
theorem offP_drawn {p : Addr} {H H' : Hp} (d : Drawn p H H') : Same (offP p H) (offP p H') := fun b o e => by
  unfold offP at e ⊢
  split at e
  · cases e
  · rename_i ne
    rw [if_neg ne]
    exact d.1 b o ne e
theorem odd_get {K : PySem.W.Frag} {H : Hp} : ∀ (xs : List V) (ds : List PyData), DpAll K H xs ds → ∀ j, j < xs.length → ∃ v d, xs[j]? = some v ∧ Dp K H v d ∧ d ∈ ds
  | [], _, _, j, h => by simp at h
  | x :: xs, ds, h, j, hj => by
    cases h with
    | cons hd hr =>
      match j, hj with
      | 0, _ => exact ⟨_, _, rfl, hd, List.mem_cons_self⟩
      | j + 1, hj =>
        obtain ⟨v, d, e, h1, h2⟩ := odd_get xs _ hr j (by simpa using hj)
        exact ⟨v, d, e, h1, List.mem_cons_of_mem _ h2⟩
theorem odd_at {p : Addr} {K : PySem.W.Frag} {H : Hp} {xs : List V} {ds : List PyData} {i : Int} (h : DpAll K (offP p H) xs ds) (h0 : 0 ≤ i) {n : Int} (h1 : i < n) (hn : n = xs.length) : ∃ v d, atI xs i = some v ∧ Dp K H v d ∧ d ∈ ds := by
  obtain ⟨j, rfl⟩ : ∃ j : Nat, i = (j : Int) := ⟨i.toNat, by omega⟩
  obtain ⟨v, d, e, h2, h3⟩ := odd_get xs ds h j (by omega)
  exact ⟨v, d, atI_nat (j := j) e, dp_grow offP_same h2, h3⟩
theorem below_no {b i : Int} (h : i < 0 ∨ b ≤ i) : belowD b (.int i) = false := by
  show (decide (0 ≤ i) && decide (i < b)) = false
  rcases h with h | h
  · rw [decide_eq_false (by omega)]; rfl
  · rw [decide_eq_false (p := i < b) (by omega)]; exact Bool.and_false _
theorem all_no {f : PyData → Bool} {ds : List PyData} {e : PyData} (h : e ∈ ds) (n : f e = false) : ds.all f = false := by
  cases k : ds.all f with
  | false => rfl
  | true =>
    have := List.all_eq_true.mp k e h
    rw [n] at this
    cases this
theorem row_no {n : Nat} {ds : List PyData} {e : PyData} (h : e ∈ ds) (k : belowD n e = false) : rowD n (.tuple ds) = false := by
  show (ds.all (belowD n) && _) = false
  rw [all_no h k]
  rfl
theorem row_long {n : Nat} {ds : List PyData} (h : 60 < ds.length) : rowD n (.tuple ds) = false := by
  show (ds.all (belowD n) && decide (ds.length ≤ 60)) = false
  rw [decide_eq_false (p := ds.length ≤ 60) (by omega), Bool.and_false]
theorem ok_no (z : Str) : okD 5 (noD z) := ⟨by show 2 ≤ 100000; decide, fun e he => by
  rcases List.mem_cons.mp he with rfl | he
  · exact trivial
  · rw [List.mem_singleton.mp he]; exact trivial⟩
theorem dpAll_app {K : PySem.W.Frag} {H : Hp} : ∀ {xs ys : List V} {ds es : List PyData}, DpAll K H xs ds → DpAll K H ys es → DpAll K H (xs ++ ys) (ds ++ es)
  | [], _, _, _, h, h2 => by cases h; exact h2
  | x :: xs, _, _, _, h, h2 => by
    cases h with
    | cons a b => exact .cons a (dpAll_app b h2)
theorem Pool.ne_tup {H : Hp} {p b : Addr} {xs : List V} (hp : Pool H p) (h : H b = some (.tup xs)) : p ≠ b := by
  obtain ⟨ns, _, _, e⟩ := hp
  exact (ne_of h e (by intro z; cases z)).symm
theorem flat_map {n : Nat} (ks : List Int) : (List.replicate n (ks.map V.int)).flatten = ((List.replicate n ks).flatten).map V.int := by
  rw [List.map_flatten, List.map_replicate]
theorem flat_mem {n : Nat} {ks : List Int} {x : Int} (h : x ∈ (List.replicate n ks).flatten) : x ∈ ks := by
  obtain ⟨l, hl, hx⟩ := List.mem_flatten.mp h
  rw [List.eq_of_mem_replicate hl] at hx
  exact hx
theorem flat_len {n : Nat} (ks : List Int) : ((List.replicate n ks).flatten).length = n * ks.length := by
  rw [List.length_flatten, List.map_replicate, List.sum_replicate_nat]
theorem cut_to {xs : List V} {k : Nat} (h : k ≤ xs.length) : cutV xs none (some (k : Int)) = xs.take k := by
  unfold cutV
  rw [HT.sIx_none, HT.sIx_nat, Nat.min_eq_left h]
  show (xs.drop 0).take (k - 0) = xs.take k
  rw [List.drop_zero, Nat.sub_zero]
end K1
set_option Elab.async false
set_option linter.all false
set_option maxRecDepth 100000
set_option maxHeartbeats 4000000
namespace K1
open PySem PySem.Spec PyProof.Rows L2 Ver
abbrev nilS : Str := ""
def AskS (z : Str) : Prop := z.length ≤ 100 ∧ ∀ c ∈ z.cps.toList, signN c = true
theorem AskS.text {z : Str} (h : AskS z) : textD (.str z) = true := by
  show z.cps.toList.all signN = true
  exact List.all_eq_true.mpr h.2
theorem TokS.ask {z : Str} (h : TokS z) : AskS z := ⟨Nat.le_trans h.2.1 (by decide), h.2.2⟩
theorem slA_to {K : PySem.W.Frag} {H : Hp} {a : Addr} {xs : List Str} {k : Nat} {Q : VK} (ha : H a = some (.tup (xs.map V.str)))
    (q : ∀ b H' (ys : List Str), Same H H' → H' b = some (.tup (ys.map V.str)) → (∀ y ∈ ys, y ∈ xs) → ys.length ≤ k → Q (.ref b) H') : rSlA K (.ref a) none (some (k : Int)) H Q := by
  refine ⟨a, xs.map V.str, rfl, .inl (.inl ha), fun h => q a H xs (Same.refl H) ha (fun _ h => h) ?_, fun h p np => ?_⟩
  · have h2 := h.2
    rw [HT.sIx_nat, List.length_map] at h2
    omega
  · have e : cutV (xs.map V.str) none (some (k : Int)) = (xs.take (min k xs.length)).map V.str := by
      unfold cutV
      rw [HT.sIx_none, HT.sIx_nat, List.length_map]
      show ((xs.map V.str).drop 0).take (min k xs.length - 0) = _
      rw [List.drop_zero, Nat.sub_zero, List.map_take]
    rw [e]
    exact q p _ (xs.take (min k xs.length)) (same_new np) upd_same (fun y hy => List.mem_of_mem_take hy) (by rw [List.length_take]; omega)
theorem numAt_last {ts : List Str} {z : Str} {m : Nat} (h : ts[m]? = some z) : numAt ts z (m + 1) = (m : Int) := by
  show (if ts[m]? = some z then (m : Int) else numAt ts z m) = _
  rw [if_pos h]
theorem numAt_none {ts : List Str} {z : Str} (h : z ∉ ts) : ∀ n, numAt ts z n = -1
  | 0 => rfl
  | n + 1 => by
    show (if ts[n]? = some z then (n : Int) else numAt ts z n) = _
    rw [if_neg (fun e => h (List.mem_of_getElem? e))]
    exact numAt_none h n
theorem repC_ask {c n : Nat} (h : signN c = true) : textD (.str (repC c n)) = true := by
  show (repC c n).cps.toList.all signN = true
  exact List.all_eq_true.mpr fun d hd => by rw [repC_mem hd]; exact h
section
variable {P : Program} {w : World} {K : PySem.W.Frag} {mg : Str → Option Value} {base : Heap}
def sp__law_texts_right (K : PySem.W.Frag) : Sp := fun vs H Q _ => ∃ (p t : Addr) (ts : List Str), vs = [.ref p, .ref t] ∧ Pool H p ∧ H t = some (.tup (ts.map V.str)) ∧ Toks ts ∧ ∀ H', Drawn p H H' → Q (.bl true) H'
theorem ok__law_texts_right (T : Tx K mg) : FnOk P w K mg base CX0 7 T.f__law_texts_right T.d__law_texts_right ["pool", "tokens"] (sp__law_texts_right K) := by
  refine T.F__law_texts_right.ok sc__law_texts_right (fun vs H Q E h => ?_) (fun cdv A outer s H vs Q E hr h => ?_)
  · obtain ⟨p, t, ts, rfl, _⟩ := h; rfl
  · obtain ⟨p, t, ts, rfl, hP, ht, hts, q⟩ := h
    refine ⟨_, (pss_cons (ps_set (i := 2) sc__law_texts_right.nd rfl (Or.inl rfl) (pe_call (ok__law_inner T) (hr.mono (by decide)) rfl T.g__law_inner T.F__law_inner.kp T.b__law_inner .nil pass0 (pa_cons (pv 1) pa_nil)))
    (pss_cons (ps_set (i := 3) sc__law_texts_right.nd rfl (Or.inl rfl) (pe_op op_cat (pe_op op_cat (pe_op op_cat (pe_lst (pa_cons pe_str pa_nil)) (pe_callTy call_list_of (by rfl) T.n_list (by decide +kernel) (pa_cons (pe_slice sl_tupA (pv 1) po_none (po_some pe_int)) pa_nil))) (pe_callTy call_list_of (by rfl) T.n_list (by decide +kernel) (pa_cons (pe_slice sl_tupA (pv 2) po_none (po_some pe_int)) pa_nil))) (pe_lst (pa_cons (pe_call (ok__law_word T) (hr.mono (by decide)) rfl T.g__law_word T.F__law_word.kp T.b__law_word .nil pass0 (pa_cons (pv 0) (pa_cons (pe_call0 (ok__law_all T) (hr.mono (by decide)) rfl T.g__law_all T.F__law_all.kp T.b__law_all .nil pass0) (pa_cons pe_int pa_nil)))) pa_nil))))
    (pss_cons (ps_for PassesOwn.never rfl (pi_tup (pe_slice sl_tupA (pv 1) po_none (po_some pe_int))) (pg_name (i := 4) sc__law_texts_right.nd rfl (Or.inl rfl))
    (pss_cons (ps_expr (pe_bm PySem.F.plainAttrs_list PySem.F.slot_list_append PySem.F.type_list_append mt_append (pv 3) (pa_cons (pe_op op_add_str (pv 4) (pe_ix ix_str (pv 4) pe_int (fun _ _ => rfl))) pa_nil)))
    (pss_one (ps_expr (pe_bm PySem.F.plainAttrs_list PySem.F.slot_list_append PySem.F.type_list_append mt_append (pv 3) (pa_cons (pe_slice C8.sl_txt (pv 4) (po_some pe_int) po_none) pa_nil))))))
    (pss_cons (ps_for PassesOwn.never rfl (pi_list (pv 3)) (pg_name (i := 5) sc__law_texts_right.nd rfl (Or.inl rfl))
    (pss_one (ps_if (pt_not (pt_val (pe_call (ok__law_same T 5) hr rfl T.g__law_same T.F__law_same.kp T.b__law_same .nil pass0 (pa_cons (pe_call (ok__law_number_told T) (hr.mono (by decide)) rfl T.g__law_number_told T.F__law_number_told.kp T.b__law_number_told .nil pass0 (pa_cons (pv 1) (pa_cons (pv 5) (pa_cons pe_bl pa_nil)))) (pa_cons (pe_call (ok__law_number T) (hr.mono (by decide)) rfl T.g__law_number T.F__law_number.kp T.b__law_number .nil pass0 (pa_cons (pv 1) (pa_cons (pv 5) pa_nil))) pa_nil))))) (pss_one (ps_ret pe_bl)) pss_nil)))
    (pss_cons (ps_set (i := 6) sc__law_texts_right.nd rfl (Or.inl rfl) (pe_op op_sub (pe_callB call_len_seq (by rfl) T.n_len (by decide +kernel) (pa_cons (pv 1) pa_nil)) pe_int))
    (pss_cons (ps_if (pt_not (pt_val (pe_call (ok__law_same T 5) hr rfl T.g__law_same T.F__law_same.kp T.b__law_same .nil pass0 (pa_cons (pe_call (ok__law_number_told T) (hr.mono (by decide)) rfl T.g__law_number_told T.F__law_number_told.kp T.b__law_number_told .nil pass0 (pa_cons (pv 1) (pa_cons (pe_ix ix_tup (pv 1) (pv 6) (fun _ _ => rfl)) (pa_cons pe_bl pa_nil)))) (pa_cons (pv 6) pa_nil))))) (pss_one (ps_ret pe_bl)) pss_nil)
    (pss_cons (ps_if (pt_not (pt_val (pe_call (ok__law_same T 5) hr rfl T.g__law_same T.F__law_same.kp T.b__law_same .nil pass0 (pa_cons (pe_call (ok__law_number_told T) (hr.mono (by decide)) rfl T.g__law_number_told T.F__law_number_told.kp T.b__law_number_told .nil pass0 (pa_cons (pv 1) (pa_cons (pe_op op_repC (pe_ix ix_str (pe_ix ix_tup (pv 1) pe_int (fun _ _ => rfl)) pe_int (fun _ _ => rfl)) pe_int) (pa_cons pe_bl pa_nil)))) (pa_cons (pe_un un_neg pe_int) pa_nil))))) (pss_one (ps_ret pe_bl)) pss_nil)
    (pss_cons (ps_set (i := 7) sc__law_texts_right.nd rfl (Or.inl rfl) (pe_lst (pa_cons (pe_op op_repC (pe_ix ix_str (pe_ix ix_tup (pv 1) pe_int (fun _ _ => rfl)) pe_int (fun _ _ => rfl)) pe_int) (pa_cons pe_non (pa_cons pe_bl (pa_cons pe_int (pa_cons (pe_lst (pa_cons (pe_ix ix_tup (pv 1) pe_int (fun _ _ => rfl)) pa_nil)) (pa_cons (pe_tup (pa_cons (pe_ix ix_tup (pv 1) pe_int (fun _ _ => rfl)) pa_nil)) (pa_cons (pe_un un_neg pe_int) (pa_cons (pe_tup pa_nil) pa_nil))))))))))
    (pss_cons (ps_for PassesOwn.never rfl (pi_range1 rfl T.n_range (pa_cons pe_int pa_nil)) (pg_name (i := 8) sc__law_texts_right.nd rfl (Or.inl rfl))
    (pss_cons (ps_set (i := 9) sc__law_texts_right.nd rfl (Or.inl rfl) (pe_ix ix_list (pv 7) (pe_call (ok__law_pick T) (hr.mono (by decide)) rfl T.g__law_pick T.F__law_pick.kp T.b__law_pick .nil pass0 (pa_cons (pv 0) (pa_cons pe_int pa_nil))) (fun _ _ => rfl)))
    (pss_one (ps_if (pt_not (pt_val (pe_call (ok__law_same T 5) hr rfl T.g__law_same T.F__law_same.kp T.b__law_same .nil pass0 (pa_cons (pe_call (ok__law_number_told T) (hr.mono (by decide)) rfl T.g__law_number_told T.F__law_number_told.kp T.b__law_number_told .nil pass0 (pa_cons (pv 1) (pa_cons (pv 9) (pa_cons (pe_cmpR op_eq (pv 8) pe_int (nomark _)) pa_nil)))) (pa_cons (pe_lst (pa_cons pe_str (pa_cons pe_str pa_nil))) pa_nil))))) (pss_one (ps_ret pe_bl)) pss_nil))))
    (pss_one (ps_ret pe_bl))))))))))), ?_⟩
    refine ⟨.ref t, rfl, t, ts, rfl, .inl (.inl ht), hts, fun R I H1 s1 hR hI => ?_⟩
    have ht1 : H1 t = some (.tup (ts.map V.str)) := s1 _ _ ht
    have ht1 := s1 _ _ ht
    have tp : t ≠ p := (Pool.ne_tup hP ht).symm
    have d1 := (Drawn.refl hP).same s1
    refine ⟨(by show 1 ≤ sizeLine; decide), fun A nA => ?_⟩
    have e2 := same_new (o := .lst [V.str ""]) nA
    have hA : (upd H1 A (.lst [V.str ""])) A = some (.lst [V.str ""]) := upd_same
    generalize upd H1 A (.lst [V.str ""]) = H2 at e2 hA ⊢
    refine ⟨.ref t, rfl, 8, rfl, slA_to (k := 8) (e2 _ _ ht1) fun b8 H3 y8 e3 hb8 in8 l8 => ?_⟩
    refine ⟨b8, _, rfl, .inr (.inl (.inl hb8)), fun B nB => ?_⟩
    have e4 := same_new (o := .lst (y8.map V.str)) nB
    have hB : (upd H3 B (.lst (y8.map V.str))) B = some (.lst (y8.map V.str)) := upd_same
    generalize upd H3 B (.lst (y8.map V.str)) = H4 at e4 hB ⊢
    refine ⟨A, B, _, _, rfl, rfl, e4 _ _ (e3 _ _ hA), hB, small' (by rw [List.length_map]; show 1 + _ ≤ _; omega), fun C nC => ?_⟩
    have e5 := same_new (o := .lst ([V.str ""] ++ y8.map V.str)) nC
    have hC : (upd H4 C (.lst ([V.str ""] ++ y8.map V.str))) C = some (.lst ((nilS :: y8).map V.str)) := upd_same
    generalize upd H4 C (.lst ([V.str ""] ++ y8.map V.str)) = H5 at e5 hC ⊢
    have e25 := ((e2.trans e3).trans e4).trans e5
    refine ⟨.ref I, rfl, 12, rfl, slA_to (k := 12) (e25 _ _ hI) fun b12 H6 y12 e6 hb12 in12 l12 => ?_⟩
    refine ⟨b12, _, rfl, .inr (.inl (.inl hb12)), fun D nD => ?_⟩
    have e7 := same_new (o := .lst (y12.map V.str)) nD
    have hD : (upd H6 D (.lst (y12.map V.str))) D = some (.lst (y12.map V.str)) := upd_same
    generalize upd H6 D (.lst (y12.map V.str)) = H7 at e7 hD ⊢
    refine ⟨C, D, _, _, rfl, rfl, e7 _ _ (e6 _ _ hC), hD, small' (by rw [List.length_map, List.length_map, List.length_cons]; omega), fun E' nE => ?_⟩
    have e8 := same_new (o := .lst ((nilS :: y8).map V.str ++ y12.map V.str)) nE
    have hE : (upd H7 E' (.lst ((nilS :: y8).map V.str ++ y12.map V.str))) E' = some (.lst ((nilS :: y8 ++ y12).map V.str)) := by rw [upd_same, ← List.map_append]
    generalize upd H7 E' (.lst ((nilS :: y8).map V.str ++ y12.map V.str)) = H8 at e8 hE ⊢
    have e28 := ((e25.trans e6).trans e7).trans e8
    have d8 := d1.same e28
    refine ⟨.ref p, rfl, rfl, p, allS, 3, rfl, d8.2, by rw [allS_len]; decide, by rw [allS_len]; decide, by decide, by decide, fun z H9 z0 z1 zs d9 f9 => ?_⟩
    have pE : E' ≠ p := fun h => by
      obtain ⟨ns, _, _, hp⟩ := d8.2
      rw [h, hp] at hE
      have := congrArg (fun o => match o with | some (HO.lst l) => l.map (fun v => match v with | V.str _ => true | _ => false) | _ => []) hE
      cases ns with
      | nil => simp at this
      | cons n ns => simp at this
    have hE9 : H9 E' = some (.lst ((nilS :: y8 ++ y12).map V.str)) := d9.1 _ _ pE hE
    have d19 := d8.trans d9
    refine ⟨(by show 1 ≤ sizeLine; decide), fun F nF => ?_⟩
    have e10 := same_new (o := .lst [V.str z]) nF
    have hF : (upd H9 F (.lst [V.str z])) F = some (.lst [V.str z]) := upd_same
    generalize upd H9 F (.lst [V.str z]) = H10 at e10 hF ⊢
    refine ⟨E', F, _, _, rfl, rfl, e10 _ _ hE9, hF, small' (by rw [List.length_map, List.length_append, List.length_cons]; show _ + 1 ≤ _; omega), fun S nS => ?_⟩
    have e11 := same_new (o := .lst ((nilS :: y8 ++ y12).map V.str ++ [V.str z])) nS
    have d11 := (d19.same e10).same e11
    have hS : (upd H10 S (.lst ((nilS :: y8 ++ y12).map V.str ++ [V.str z]))) S = some (.lst ((nilS :: y8 ++ y12 ++ [z]).map V.str)) := by rw [upd_same, show (nilS :: y8 ++ y12 ++ [z]).map V.str = (nilS :: y8 ++ y12).map V.str ++ [V.str z] from List.map_append]
    have nSH : H S = none := (d19.same e10).back nS
    have pS : p ≠ S := (d19.same e10).2.ne_none nS
    generalize upd H10 S (.lst ((nilS :: y8 ++ y12).map V.str ++ [V.str z])) = H11 at e11 d11 hS ⊢
    have ok1 : ∀ x ∈ nilS :: y8 ++ y12 ++ [z], AskS x := fun x hx => by
      rcases List.mem_append.mp hx with hx | hx
      · rcases List.mem_append.mp hx with hx | hx
        · rcases List.mem_cons.mp hx with hx | hx
          · rw [hx]
            exact ⟨by decide, fun c hc => absurd hc (by decide +revert)⟩
          · exact (hts.2.2 x (in8 x hx)).ask
        · have := inner_some hts hR x (in12 x hx)
          exact ⟨by omega, this.2⟩
      · rw [List.mem_singleton.mp hx]
        exact ⟨by omega, fun c hc => allS_good.2.2 c (zs c hc)⟩
    have len1 : (nilS :: y8 ++ y12 ++ [z]).length ≤ 22 := by
      rw [List.length_append, List.length_append, List.length_cons]
      show _ + 1 ≤ 22
      omega
    generalize nilS :: y8 ++ y12 ++ [z] = as at hS ok1 len1
    refine ⟨.ref t, rfl, 6, rfl, slA_to (k := 6) (d11.1 _ _ tp ht) fun b6 H12 y6 e12 hb6 in6 l6 => ?_⟩
    have d12 := d11.same e12
    have hS12 := e12 _ _ hS
    have tok0 : ∀ x : Str, TokS x → ∃ c, atI x.cps.toList 0 = some c ∧ signN c = true := fun x hx => by
      obtain ⟨c, ec⟩ := sign_at (sg := x) (i := 0) (by omega) (by have := hx.1; omega)
      exact ⟨c, ec, hx.2.2 c (atI_mem ec)⟩
    refine ⟨b6, rfl, ⟨_, .inl (.inl hb6)⟩, ?_⟩
    refine for_tup (K := K) (a := b6) (xs := y6.map V.str) (fun i σ H' => ∃ as y4, σ = [some (.ref p), some (.ref t), some (.ref I), some (.ref S), y4, none, none, none, none, none] ∧ Drawn p H H' ∧ H' b6 = some (.tup (y6.map V.str)) ∧ H' S = some (.lst (as.map V.str)) ∧ (∀ x ∈ as, AskS x) ∧ as.length ≤ 22 + 2 * i)
      ⟨as, none, rfl, d12, hb6, hS12, ok1, len1⟩ (fun i σ H' _ h => ?_) (fun i x σ H' e h => ?_) (fun σ H' h => ?_)
    · obtain ⟨as, y4, _, _, hb, _⟩ := h
      exact .inl (.inl hb)
    · obtain ⟨as, y4, rfl, d, hb, hSa, oka, lena⟩ := h
      obtain ⟨z, ez, rfl⟩ : ∃ z, y6[i]? = some z ∧ V.str z = x := by
        rw [List.getElem?_map] at e
        cases ez : y6[i]? with
        | none => rw [ez] at e; cases e
        | some z => rw [ez] at e; exact ⟨z, rfl, Option.some.inj e⟩
      have lti : i < y6.length := (List.getElem?_eq_some_iff.mp ez).1
      have hz := hts.2.2 z (in6 z (List.mem_of_getElem? ez))
      obtain ⟨c, ec, sc⟩ := tok0 z hz
      have hz12 := hz.2.1
      refine ⟨.ref S, rfl, .inl ⟨rfl, _, .inl (.inl hSa)⟩, .str z, rfl, .str z, rfl, z, 0, c, rfl, rfl, small' (by omega), ec, z, ⟨#[c]⟩, rfl, rfl, small' (by show _ + 1 ≤ _; omega), S, _, _, rfl, rfl, hSa, small (by rw [List.length_map]; omega), ?_⟩
      have hS2 : (upd H' S (.lst (as.map V.str ++ [V.str (z ++ ⟨#[c]⟩)]))) S = some (.lst ((as ++ [z ++ ⟨#[c]⟩]).map V.str)) := by rw [upd_same, List.map_append]; rfl
      refine ⟨.ref S, rfl, .inl ⟨rfl, _, .inl (.inl hS2)⟩, .str z, rfl, 1, rfl, z, rfl, small' (by omega), S, _, _, rfl, rfl, hS2, small (by rw [List.length_map, List.length_append]; show _ + 1 ≤ _; omega), ?_⟩
      have ask1 : AskS (z ++ (⟨#[c]⟩ : Str)) := by
        have el : (z ++ (⟨#[c]⟩ : Str)).length = z.length + 1 := Str.length_append _ _
        have et : (z ++ (⟨#[c]⟩ : Str)).cps.toList = z.cps.toList ++ [c] := TL.tl_append z ⟨#[c]⟩
        refine ⟨by omega, fun d hd => ?_⟩
        rw [et] at hd
        rcases List.mem_append.mp hd with h | h
        · exact hz.2.2 d h
        · rw [List.mem_singleton.mp h]; exact sc
      have ask2 : AskS (Txt.slice z (some 1) none) := by
        have e9 := SX.slice_from (a := z.cps.toList) (i := 1) (by decide)
        rw [SX.S_tl] at e9
        rw [e9]
        refine ⟨?_, fun d hd => hz.2.2 d (List.mem_of_mem_drop hd)⟩
        rw [SX.S_len, List.length_drop, Array.length_toList]
        have : z.cps.size = z.length := rfl
        omega
      refine ⟨as ++ [z ++ ⟨#[c]⟩] ++ [Txt.slice z (some 1) none], some (.str z), rfl, (d.at nSH pS).at nSH pS, tup_upd hS2 (tup_upd hSa hb), by rw [upd_same]; exact congrArg (fun l => some (HO.lst l)) (List.map_append (l₁ := as ++ [z ++ (⟨#[c]⟩ : Str)]) (l₂ := [Txt.slice z (some 1) none])).symm, fun y hy => ?_, ?_⟩
      · rcases List.mem_append.mp hy with h | h
        · rcases List.mem_append.mp h with h | h
          · exact oka y h
          · rw [List.mem_singleton.mp h]; exact ask1
        · rw [List.mem_singleton.mp h]; exact ask2
      · rw [List.length_append, List.length_append]
        show as.length + 1 + 1 ≤ _
        omega
    · obtain ⟨as, y4, rfl, d, hb, hSa, oka, lena⟩ := h
      rw [List.length_map] at lena
      have htA := d.1 _ _ tp ht
      refine ⟨.ref S, rfl, S, rfl, ⟨_, .inl (.inl hSa)⟩, ?_⟩
      refine for_list (K := K) (a := S) (xs := as.map V.str) (fun i σ H'' => ∃ y5, σ = [some (.ref p), some (.ref t), some (.ref I), some (.ref S), y4, y5, none, none, none, none] ∧ Same H' H'') ⟨none, rfl, Same.refl H'⟩ (fun i σ H'' _ h => ?_) (fun i x σ H'' e h => ?_) (fun σ H'' h => ?_)
      · obtain ⟨y5, _, k⟩ := h
        exact .inl (.inl (k _ _ hSa))
      · obtain ⟨y5, rfl, k⟩ := h
        obtain ⟨z, ez, rfl⟩ : ∃ z, as[i]? = some z ∧ V.str z = x := by
          rw [List.getElem?_map] at e
          cases ez : as[i]? with
          | none => rw [ez] at e; cases e
          | some z => rw [ez] at e; exact ⟨z, rfl, Option.some.inj e⟩
        have hz := oka z (List.mem_of_getElem? ez)
        have hl := hts.2.1
        have hz100 := hz.1
        have htK := k _ _ htA
        refine ⟨.ref t, rfl, .str z, rfl, t, ts, .str z, .str z, false, rfl, .inl (.inl htK), by omega, .str z, by show z.length ≤ 5000; omega, fun z' ez' _ _ H2 s2 => ?_, fun hn => absurd ⟨hz.text, by show z.length ≤ 1200; omega⟩ hn⟩
        have ez2 : z = z' := by injection ez'
        subst ez2
        refine ⟨.ref t, rfl, .str z, rfl, t, ts, z, rfl, .inl (.inl (s2 _ _ htK)), by omega, ?_⟩
        refine ⟨_, _, .int (numAt ts z ts.length), rfl, .int _, .int _, trivial, fun H3 s3 => ⟨_, rfl, ?_⟩⟩
        exact ⟨some (.str z), rfl, (k.trans s2).trans s3⟩
      · obtain ⟨y5, rfl, k⟩ := h
        have htK := k _ _ htA
        have dK := d.same k
        have hl := hts.2.1
        have hl1 := hts.1
        have big : ∀ (c n : Nat), 12 < n → repC c n ∉ ts := fun c n hn hm => by
          have := (hts.2.2 _ hm).2.1
          rw [repC_len] at this
          omega
        refine ⟨.ref t, rfl, t, _, rfl, .inr (.inl (.inl htK)), _, 1, rfl, rfl, ?_⟩
        rw [List.length_map]
        obtain ⟨m, em⟩ : ∃ m, ts.length = m + 1 := ⟨ts.length - 1, by omega⟩
        have eli : ((ts.length : Nat) : Int) - 1 = (m : Int) := by omega
        have eg : (fun i j : Int => V.int (i - j)) ((ts.length : Nat) : Int) 1 = V.int (m : Int) := by show V.int _ = _; rw [eli]
        rw [eg]
        have ltm : m < ts.length := by omega
        have etm : ts[m]? = some ts[m] := List.getElem?_eq_getElem ltm
        have etV : (ts.map V.str)[m]? = some (V.str ts[m]) := by rw [List.getElem?_map, etm]; rfl
        have zm := hts.2.2 _ (List.getElem_mem ltm)
        generalize ts[m] = zl at etm etV zm
        have zm12 := zm.2.1
        refine ⟨.ref t, rfl, .ref t, rfl, .int (m : Nat), rfl, t, _, _, _, rfl, rfl, .inl (.inl htK), atI_nat etV, t, ts, .str zl, .str zl, true, rfl, .inl (.inl htK), by omega, .str zl, by show zl.length ≤ 5000; omega, fun z' ez' _ _ H2 s2 => ?_, fun hn => absurd ⟨zm.ask.text, by show zl.length ≤ 1200; omega⟩ hn⟩
        have ez2 : zl = z' := by injection ez'
        subst ez2
        refine ⟨.int (m : Nat), rfl, _, _, .int (m : Nat), rfl, by rw [em, numAt_last etm]; exact .int _, .int _, trivial, fun H3 s3 => ⟨_, rfl, ?_⟩⟩
        have k3 := (k.trans s2).trans s3
        have htK3 := k3 _ _ htA
        have lt0 : 0 < ts.length := by omega
        have et0 : (ts.map V.str)[0]? = some (V.str ts[0]) := by rw [List.getElem?_map, List.getElem?_eq_getElem lt0]; rfl
        have z0k := hts.2.2 _ (List.getElem_mem lt0)
        generalize ts[0] = zf at et0 z0k
        have zf12 := z0k.2.1
        obtain ⟨c, ec, sc⟩ := tok0 zf z0k
        have rask : ∀ n, textD (.str (repC c n)) = true := fun n => repC_ask sc
        refine ⟨.ref t, rfl, .ref t, rfl, t, _, 0, _, rfl, rfl, .inl (.inl htK3), atI_zero et0, zf, 0, c, rfl, rfl, small' (by omega), ec, c, 1200, rfl, rfl, by decide, by decide, t, ts, .str (repC c 1200), .str (repC c 1200), false, rfl, .inl (.inl htK3), by omega, .str _, by show (repC c 1200).length ≤ 5000; rw [repC_len]; decide, fun z' ez' _ _ H4 s4 => ?_, fun hn => absurd ⟨rask 1200, by show (repC c 1200).length ≤ 1200; rw [repC_len]; decide⟩ hn⟩
        have ez3 : repC c 1200 = z' := by injection ez'
        subst ez3
        refine ⟨1, rfl, _, _, .int (-1), rfl, by rw [numAt_none (big c 1200 (by decide))]; exact .int _, .int _, trivial, fun H5 s5 => ⟨_, rfl, ?_⟩⟩
        have k5 := (k3.trans s4).trans s5
        have d5 := d.same k5
        refine iteF ?_
        refine seq_via (fun σ' H' => H' = H5 ∧ σ' = [some (.ref p), some (.ref t), some (.ref I), some (.ref S), y4, y5, some (.int (m : Nat)), none, none, none]) (fun C hC => hC _ _ ⟨rfl, rfl⟩) (fun σ' H' h => ?_)
        obtain ⟨rfl, rfl⟩ := h
        refine seq_via (fun σ' H' => ∃ (L : Addr) (us : List V) (ds : List PyData), σ' = [some (.ref p), some (.ref t), some (.ref I), some (.ref S), y4, y5, some (.int (m : Nat)), some (.ref L), none, none] ∧ Drawn p H H' ∧ H' L = some (.lst us) ∧ p ≠ L ∧ DpAll K (offP p H') us ds ∧ us.length = 8 ∧ ∀ d ∈ ds, lenT d ≤ 5000 ∧ (textD d = true → 1200 < lenT d)) (fun Cn hC => ?_) (fun σ' H6 h => ?_)
        · have htK5 := k5 _ _ htA
          refine ⟨.ref t, rfl, t, _, 0, _, rfl, rfl, .inl (.inl htK5), atI_zero et0, zf, 0, c, rfl, rfl, small' (by omega), ec, c, 1201, rfl, rfl, by decide, by decide, ?_⟩
          refine ⟨.ref t, rfl, t, _, 0, _, rfl, rfl, .inl (.inl htK5), atI_zero et0, (by show 1 ≤ sizeLine; decide), fun L1 nL1 => ?_⟩
          have g1 := same_new (o := .lst [V.str zf]) nL1
          have hL1 : (upd H' L1 (.lst [V.str zf])) L1 = some (.lst [V.str zf]) := upd_same
          have q1 : p ≠ L1 := d5.2.ne_none nL1
          generalize upd H' L1 (.lst [V.str zf]) = G1 at g1 hL1 ⊢
          have dG1 := d5.same g1
          refine ⟨.ref t, rfl, t, _, 0, _, rfl, rfl, .inl (.inl (g1 _ _ htK5)), atI_zero et0, (by show 1 ≤ sizeLine; decide), fun T1 nT1 => ?_⟩
          have g2 := same_new (o := .tup [V.str zf]) nT1
          have hT1 : (upd G1 T1 (.tup [V.str zf])) T1 = some (.tup [V.str zf]) := upd_same
          have q2 : p ≠ T1 := dG1.2.ne_none nT1
          generalize upd G1 T1 (.tup [V.str zf]) = G2 at g2 hT1 ⊢
          have dG2 := dG1.same g2
          refine ⟨1, rfl, (by show 0 ≤ sizeLine; decide), fun T2 nT2 => ?_⟩
          have g3 := same_new (o := .tup []) nT2
          have hT2 : (upd G2 T2 (.tup [])) T2 = some (.tup []) := upd_same
          have q3 : p ≠ T2 := dG2.2.ne_none nT2
          generalize upd G2 T2 (.tup []) = G3 at g3 hT2 ⊢
          have dG3 := dG2.same g3
          refine ⟨(by show 8 ≤ sizeLine; decide), fun L nL => ?_⟩
          have g4 := same_new (o := .lst [V.str (repC c 1201), .non, .bl true, .int 0, .ref L1, .ref T1, .int (-1), .ref T2]) nL
          have q4 : p ≠ L := dG3.2.ne_none nL
          refine hC _ _ ⟨L, _, [.str (repC c 1201), .none, .bool true, .int 0, .list [.str zf], .tuple [.str zf], .int (-1), .tuple []], rfl, dG3.same g4, upd_same, q4, ?_, rfl, fun d hd => ?_⟩
          · exact .cons (.str _) (.cons .non (.cons (.bl _) (.cons (.int _) (.cons (.lst (.inl (.inl (offP_at q1 (g4 _ _ (g3 _ _ (g2 _ _ hL1)))))) (.cons (.str _) .nil)) (.cons (.tup (.inl (.inl (offP_at q2 (g4 _ _ (g3 _ _ hT1))))) (.cons (.str _) .nil)) (.cons (.int _) (.cons (.tup (.inl (.inl (offP_at q3 (g4 _ _ hT2)))) .nil) .nil)))))))
          · simp only [List.mem_cons, List.not_mem_nil, or_false] at hd
            rcases hd with rfl | rfl | rfl | rfl | rfl | rfl | rfl | rfl
            · exact ⟨by show (repC c 1201).length ≤ 5000; rw [repC_len]; decide, fun _ => by show 1200 < (repC c 1201).length; rw [repC_len]; decide⟩
            all_goals exact ⟨Nat.zero_le _, fun z => by cases z⟩
        · obtain ⟨L, us, ds, rfl, dL, hL, qL, hds, lus, bad⟩ := h
          refine ⟨3, rfl, by decide, by decide, ?_⟩
          refine for_range0 (n := (3 : Int).toNat) (fun i σ H' => ∃ y8 y9, σ = [some (.ref p), some (.ref t), some (.ref I), some (.ref S), y4, y5, some (.int (m : Nat)), some (.ref L), y8, y9] ∧ Drawn p H6 H') ⟨none, none, rfl, Drawn.refl dL.2⟩ (fun i σ H' lt h => ?_) (fun σ H' h => ?_)
          · obtain ⟨y8, y9, rfl, k⟩ := h
            refine ⟨.ref L, rfl, .ref p, rfl, p, 8, rfl, k.2, by decide, by decide, fun i0 H7 i00 i01 dd ff => ?_⟩
            have kd := k.trans dd
            obtain ⟨v, dv, atv, Dv, mem⟩ := odd_at (dpAll_grow (offP_drawn kd) hds) i00 i01 (by rw [lus]; rfl)
            refine ⟨L, us, i0, v, rfl, rfl, .inl (.inl (kd.1 _ _ qL.symm hL)), atv, ?_⟩
            obtain ⟨bad1, bad2⟩ := bad dv mem
            have hT7 := kd.1 _ _ tp (dL.1 _ _ tp ht)
            refine ⟨.ref t, rfl, v, rfl, .int (i : Nat), rfl, rfl, t, ts, v, dv, _, rfl, .inl (.inl hT7), by omega, Dv, bad1, fun z hz h1 h2 => ?_, fun _ u H8 s8 hu => ?_⟩
            · have := bad2 h1
              rw [hz] at this
              have : 1200 < z.length := this
              omega
            · refine ⟨(by show 2 ≤ sizeLine; decide), fun M nM => ?_⟩
              have sM := same_new (o := .lst [V.str "refused", V.str "text"]) nM
              exact ⟨u, .ref M, noD "text", rfl, dp_grow sM hu, no_at upd_same, ok_no _, fun H9 s9 => ⟨_, rfl, _, _, rfl, ((kd.same s8).same sM).same s9⟩⟩
          · obtain ⟨y8, y9, rfl, k⟩ := h
            exact q H' (dL.trans k)
end
end K1
set_option Elab.async false
set_option linter.all false
set_option maxRecDepth 100000
set_option maxHeartbeats 4000000
namespace K1
open PySem PySem.Spec PyProof.Rows L2 Ver
theorem tup_drawn {p a : Addr} {H H' : Hp} {xs : List V} (hp : Pool H p) (d : Drawn p H H') (h : H a = some (.tup xs)) : H' a = some (.tup xs) := d.1 a _ (hp.ne_tup h).symm h
theorem Rows.drawn {K : PySem.W.Frag} {H H' : Hp} {p : Addr} (hp : Pool H p) (d : Drawn p H H') {vs : List V} {rs : List (List Int)} (h : Rows K H vs rs) : Rows K H' vs rs := by
  induction h with
  | nil => exact .nil
  | cons h1 _ ih =>
    obtain ⟨a, h1, h2⟩ := h1
    exact .cons ⟨a, h1, tup_drawn hp d h2⟩ ih
theorem slA_take {K : PySem.W.Frag} {H : Hp} {a : Addr} {xs : List V} {k : Nat} {Q : VK} (ha : H a = some (.tup xs))
    (q : ∀ b H', Same H H' → H' b = some (.tup (xs.take k)) → Q (.ref b) H') : rSlA K (.ref a) none (some (k : Int)) H Q := by
  refine ⟨a, xs, rfl, .inl (.inl ha), fun h => q a H (Same.refl H) ?_, fun h p np => ?_⟩
  · have h2 := h.2
    rw [HT.sIx_nat] at h2
    rw [List.take_of_length_le (by omega)]
    exact ha
  · have e : cutV xs none (some (k : Int)) = xs.take k := by
      unfold cutV
      rw [HT.sIx_none, HT.sIx_nat]
      show (xs.drop 0).take (min k xs.length - 0) = _
      rw [List.drop_zero, Nat.sub_zero, List.take_eq_take_iff]
      omega
    rw [e]
    exact q p _ (same_new np) upd_same
theorem data_inj : ∀ {a b : List Int}, a.map PyData.int = b.map PyData.int → a = b
  | [], [], _ => rfl
  | x :: a, [], h => by cases h
  | [], y :: b, h => by cases h
  | x :: a, y :: b, h => by
    injection h with h1 h2
    injection h1 with h1
    rw [h1, data_inj h2]
theorem row_inj {a b : List Int} (h : PyData.tuple (a.map PyData.int) = .tuple (b.map PyData.int)) : a = b := by
  injection h with h
  exact data_inj h
def RowI (n : Nat) (r : List Int) : Prop := r.length ≤ 60 ∧ ∀ x ∈ r, 0 ≤ x ∧ x < (n : Int)
theorem RowI.row {n : Nat} {r : List Int} (h : RowI n r) : rowD n (.tuple (r.map PyData.int)) = true := by
  show ((r.map PyData.int).all (belowD n) && decide ((r.map PyData.int).length ≤ 60)) = true
  rw [List.length_map, decide_eq_true h.1, Bool.and_true, List.all_map]
  refine List.all_eq_true.mpr fun x hx => ?_
  obtain ⟨h0, h1⟩ := h.2 x hx
  show (decide (0 ≤ x) && decide (x < (n : Int))) = true
  rw [decide_eq_true h0, decide_eq_true h1]; rfl
theorem rowsG_ok {m n : Nat} (hn : n ≤ 60) {r : List Int} (h : r ∈ rowsG m n) : RowI m r := by
  obtain ⟨j, hj, hr⟩ := List.mem_flatMap.mp h
  have hj' := List.mem_range.mp hj
  obtain ⟨h1, h2⟩ := layG_mem hr
  exact ⟨by omega, h2⟩
section
variable {P : Program} {w : World} {K : PySem.W.Frag} {mg : Str → Option Value} {base : Heap}
def sp__law_rows_right (K : PySem.W.Frag) : Sp := fun vs H Q _ => ∃ (p t : Addr) (ts : List Str), vs = [.ref p, .ref t] ∧ Pool H p ∧ H t = some (.tup (ts.map V.str)) ∧ Toks ts ∧ ∀ H', Drawn p H H' → Q (.bl true) H'
theorem ok__law_rows_right (T : Tx K mg) : FnOk P w K mg base CX0 8 T.f__law_rows_right T.d__law_rows_right ["pool", "tokens"] (sp__law_rows_right K) := by
  refine T.F__law_rows_right.ok sc__law_rows_right (fun vs H Q E h => ?_) (fun cdv A outer s H vs Q E hr h => ?_)
  · obtain ⟨p, t, ts, rfl, _⟩ := h; rfl
  · obtain ⟨p, t, ts, rfl, hP, ht, hts, q⟩ := h
    refine ⟨_, (pss_cons (ps_set (i := 2) sc__law_rows_right.nd rfl (Or.inr rfl) (pe_callB call_len_seq (by rfl) T.n_len (by decide +kernel) (pa_cons (pv 1) pa_nil)))
    (pss_cons (ps_set (i := 3) sc__law_rows_right.nd rfl (Or.inl rfl) (pe_ifExp (pt_cmpR op_le (pv 2) pe_int (nomark _)) (pe_call (ok__law_rows T) (hr.mono (by decide)) rfl T.g__law_rows T.F__law_rows.kp T.b__law_rows .nil pass0 (pa_cons (pv 2) (pa_cons pe_int pa_nil))) (pe_lst (pa_cons (pe_tup pa_nil) (pa_cons (pe_tup (pa_cons (pe_op op_sub (pv 2) pe_int) pa_nil)) (pa_cons (pe_tup (pa_cons pe_int (pa_cons (pe_op op_sub (pv 2) pe_int) pa_nil))) (pa_cons (pe_tup (pa_cons (pe_op op_sub (pv 2) pe_int) (pa_cons (pe_op op_sub (pv 2) pe_int) (pa_cons pe_int pa_nil)))) pa_nil)))))))
    (pss_cons (ps_set (i := 4) sc__law_rows_right.nd rfl (Or.inl rfl) (pe_callTy call_tuple_of (by rfl) T.n_tuple (by decide +kernel) (pa_cons (pe_lc (own := [("k", 10)]) (g := gName 10) (tt := tYes) (by rfl) sc__law_rows_right.nd (pi_range1 rfl T.n_range (pa_cons (pe_op op_add pe_int (pe_call (ok__law_pick T) (hr.mono (by decide)) rfl T.g__law_pick T.F__law_pick.kp T.b__law_pick .nil pass0 (pa_cons (pv 0) (pa_cons pe_int pa_nil)))) pa_nil)) (blkOk_by (N := ["pool", "tokens", "m", "rows", "row", "some", "odd", "turn", "thing", "told", "k"]) (sc := defScope s__law_rows_right) (by decide +kernel)) (fun _ _ _ _ _ => (pg_name (i := 10) sc__law_rows_right.nd rfl (Or.inl rfl))) (fun _ _ _ _ _ => pts_nil) (fun _ _ _ _ _ => (pe_call (ok__law_pick T) (hr.mono (by decide)) rfl T.g__law_pick T.F__law_pick.kp T.b__law_pick .nil pass0 (pa_cons (pv 0) (pa_cons (pv 2) pa_nil))))) pa_nil)))
    (pss_cons (ps_expr (pe_bm PySem.F.plainAttrs_list PySem.F.slot_list_append PySem.F.type_list_append mt_append (pv 3) (pa_cons (pv 4) pa_nil)))
    (pss_cons (ps_expr (pe_bm PySem.F.plainAttrs_list PySem.F.slot_list_append PySem.F.type_list_append mt_append (pv 3) (pa_cons (pe_slice sl_tupA (pe_op op_repT (pv 4) pe_int) po_none (po_some pe_int)) pa_nil)))
    (pss_cons (ps_for PassesOwn.never rfl (pi_list (pv 3)) (pg_name (i := 5) sc__law_rows_right.nd rfl (Or.inl rfl))
    (pss_one (ps_if (pt_not (pt_val (pe_call (ok__law_same T 5) (hr.mono (by decide)) rfl T.g__law_same T.F__law_same.kp T.b__law_same .nil pass0 (pa_cons (pe_call (ok__law_text_told T) hr rfl T.g__law_text_told T.F__law_text_told.kp T.b__law_text_told .nil pass0 (pa_cons (pv 1) (pa_cons (pv 5) (pa_cons (pe_cmpR op_eq (pe_callB call_len_seq (by rfl) T.n_len (by decide +kernel) (pa_cons (pv 5) pa_nil)) pe_int (nomark _)) pa_nil)))) (pa_cons (pe_call (ok__law_letters T) (hr.mono (by decide)) rfl T.g__law_letters T.F__law_letters.kp T.b__law_letters .nil pass0 (pa_cons (pv 1) (pa_cons (pv 5) pa_nil))) pa_nil))))) (pss_one (ps_ret pe_bl)) pss_nil)))
    (pss_cons (ps_set (i := 6) sc__law_rows_right.nd rfl (Or.inl rfl) (pe_lst (pa_cons (pe_slice sl_tupA (pe_op op_repT (pv 4) pe_int) po_none (po_some pe_int)) (pa_cons (pe_callTy call_list_of (by rfl) T.n_list (by decide +kernel) (pa_cons (pv 4) pa_nil)) (pa_cons (pe_op op_catA (pv 4) (pe_tup (pa_cons (pv 2) pa_nil))) (pa_cons (pe_op op_catA (pe_tup (pa_cons (pe_un un_neg pe_int) pa_nil)) (pv 4)) (pa_cons (pe_op op_catA (pe_tup (pa_cons pe_bl pa_nil)) (pv 4)) (pa_cons (pe_op op_catA (pv 4) (pe_tup (pa_cons pe_bl pa_nil))) (pa_cons pe_non (pa_cons pe_str (pa_cons pe_int (pa_cons (pe_tup (pa_cons (pv 4) pa_nil)) (pa_cons (pe_op op_catA (pv 4) (pe_tup (pa_cons pe_str pa_nil))) (pa_cons (pe_op op_catA (pv 4) (pe_tup (pa_cons (pe_lst (pa_cons pe_int pa_nil)) pa_nil))) (pa_cons (pe_lst pa_nil) (pa_cons (pe_tup (pa_cons (pe_op op_pow pe_int pe_int) pa_nil)) pa_nil))))))))))))))))
    (pss_cons (ps_for PassesOwn.never rfl (pi_range1 rfl T.n_range (pa_cons pe_int pa_nil)) (pg_name (i := 7) sc__law_rows_right.nd rfl (Or.inl rfl))
    (pss_cons (ps_set (i := 8) sc__law_rows_right.nd rfl (Or.inl rfl) (pe_ix ix_list (pv 6) (pe_call (ok__law_pick T) (hr.mono (by decide)) rfl T.g__law_pick T.F__law_pick.kp T.b__law_pick .nil pass0 (pa_cons (pv 0) (pa_cons pe_int pa_nil))) (fun _ _ => rfl)))
    (pss_one (ps_if (pt_not (pt_val (pe_call (ok__law_same T 5) (hr.mono (by decide)) rfl T.g__law_same T.F__law_same.kp T.b__law_same .nil pass0 (pa_cons (pe_call (ok__law_text_told T) hr rfl T.g__law_text_told T.F__law_text_told.kp T.b__law_text_told .nil pass0 (pa_cons (pv 1) (pa_cons (pv 8) (pa_cons (pe_cmpR op_eq (pv 7) pe_int (nomark _)) pa_nil)))) (pa_cons (pe_lst (pa_cons pe_str (pa_cons pe_str pa_nil))) pa_nil))))) (pss_one (ps_ret pe_bl)) pss_nil))))
    (pss_cons (ps_set (i := 9) sc__law_rows_right.nd rfl (Or.inl rfl) (pe_callTy call_list_of (by rfl) T.n_list (by decide +kernel) (pa_cons (pv 4) pa_nil)))
    (pss_cons (ps_if (pt_not (pt_val (pe_call (ok__law_same T 5) (hr.mono (by decide)) rfl T.g__law_same T.F__law_same.kp T.b__law_same .nil pass0 (pa_cons (pe_call (ok__law_text_told T) hr rfl T.g__law_text_told T.F__law_text_told.kp T.b__law_text_told .nil pass0 (pa_cons (pv 1) (pa_cons (pv 9) (pa_cons pe_bl pa_nil)))) (pa_cons (pe_lst (pa_cons pe_str (pa_cons pe_str pa_nil))) pa_nil))))) (pss_one (ps_ret pe_bl)) pss_nil)
    (pss_one (ps_ret (pe_call (ok__law_same T 5) (hr.mono (by decide)) rfl T.g__law_same T.F__law_same.kp T.b__law_same .nil pass0 (pa_cons (pv 9) (pa_cons (pe_callTy call_list_of (by rfl) T.n_list (by decide +kernel) (pa_cons (pv 4) pa_nil)) pa_nil))))))))))))))), ?_⟩
    have hl := hts.2.1
    have hl1 := hts.1
    have hz100 : ∀ z ∈ ts, z.length ≤ 100 := fun z hz => Nat.le_trans (hts.2.2 z hz).2.1 (by decide)
    refine ⟨.ref t, rfl, t, _, rfl, .inr (.inl (.inl ht)), ?_⟩
    rw [List.length_map]
    refine seq_via (fun σ' H' => H' = H ∧ σ' = [some (.ref p), some (.ref t), some (.int (ts.length : Nat)), none, none, none, none, none, none, none, none]) (fun C hC => hC _ _ ⟨rfl, rfl⟩) (fun σ' H' h => ?_)
    obtain ⟨rfl, rfl⟩ := h
    refine seq_via (fun σ' H2 => ∃ (R0 : Addr) (us : List V) (rs : List (List Int)), σ' = [some (.ref p), some (.ref t), some (.int (ts.length : Nat)), some (.ref R0), none, none, none, none, none, none, none] ∧ Same H' H2 ∧ H2 R0 = some (.lst us) ∧ H' R0 = none ∧ p ≠ R0 ∧ Rows K H2 us rs ∧ us.length ≤ 20000 ∧ ∀ r ∈ rs, RowI ts.length r) (fun C hC => ?_) (fun σ' H2 h => ?_)
    · refine ⟨.int (ts.length : Nat), rfl, _, 3, rfl, rfl, _, rfl, ?_⟩
      refine ite2 (fun e => ?_) (fun e => ?_)
      · have e3 : ts.length ≤ 3 := by have := of_decide_eq_true e; omega
        refine ⟨.int (ts.length : Nat), rfl, ts.length, 3, rfl, by omega, by decide, fun R0 us H2 s2 nR hR rR => ?_⟩
        have lu := Paired.length rR
        have lg := rowsG_len (m := ts.length) (by omega) 3 (by decide)
        exact hC _ _ ⟨R0, us, _, rfl, s2, hR, nR, hP.ne_none nR, rR, by omega, fun r hr => rowsG_ok (by decide) hr⟩
      · have e3 : 3 < ts.length := by
          have : ¬ ((ts.length : Nat) : Int) ≤ 3 := fun z => e (decide_eq_true z)
          omega
        refine ⟨(by show 0 ≤ sizeLine; decide), fun A1 n1 => ?_⟩
        have s1 := same_new (o := .tup []) n1
        have h1 : (upd H' A1 (.tup [])) A1 = some (.tup []) := upd_same
        generalize upd H' A1 (.tup []) = G1 at s1 h1 ⊢
        refine ⟨.int (ts.length : Nat), rfl, _, 1, rfl, rfl, (by show 1 ≤ sizeLine; decide), fun A2 n2 => ?_⟩
        have s2 := same_new (o := .tup [V.int ((ts.length : Nat) - 1)]) n2
        have h2 : (upd G1 A2 (.tup [V.int ((ts.length : Nat) - 1)])) A2 = some (.tup [V.int ((ts.length : Nat) - 1)]) := upd_same
        generalize upd G1 A2 (.tup [V.int ((ts.length : Nat) - 1)]) = G2 at s2 h2 ⊢
        refine ⟨.int (ts.length : Nat), rfl, _, 1, rfl, rfl, (by show 2 ≤ sizeLine; decide), fun A3 n3 => ?_⟩
        have s3 := same_new (o := .tup [V.int 0, V.int ((ts.length : Nat) - 1)]) n3
        have h3 : (upd G2 A3 (.tup [V.int 0, V.int ((ts.length : Nat) - 1)])) A3 = some (.tup [V.int 0, V.int ((ts.length : Nat) - 1)]) := upd_same
        generalize upd G2 A3 (.tup [V.int 0, V.int ((ts.length : Nat) - 1)]) = G3 at s3 h3 ⊢
        refine ⟨.int (ts.length : Nat), rfl, _, 1, rfl, rfl, .int (ts.length : Nat), rfl, _, 2, rfl, rfl, (by show 3 ≤ sizeLine; decide), fun A4 n4 => ?_⟩
        have s4 := same_new (o := .tup [V.int ((ts.length : Nat) - 1), V.int ((ts.length : Nat) - 2), V.int 0]) n4
        have h4 : (upd G3 A4 (.tup [V.int ((ts.length : Nat) - 1), V.int ((ts.length : Nat) - 2), V.int 0])) A4 = some (.tup [V.int ((ts.length : Nat) - 1), V.int ((ts.length : Nat) - 2), V.int 0]) := upd_same
        generalize upd G3 A4 (.tup [V.int ((ts.length : Nat) - 1), V.int ((ts.length : Nat) - 2), V.int 0]) = G4 at s4 h4 ⊢
        refine ⟨(by show 4 ≤ sizeLine; decide), fun R0 nR => ?_⟩
        have s5 := same_new (o := .lst [V.ref A1, V.ref A2, V.ref A3, V.ref A4]) nR
        have s14 := ((s1.trans s2).trans s3).trans s4
        have dR := (Drawn.refl hP).same s14
        refine hC _ _ ⟨R0, _, [[], [(ts.length : Nat) - 1], [0, (ts.length : Nat) - 1], [(ts.length : Nat) - 1, (ts.length : Nat) - 2, 0]], rfl, s14.trans s5, upd_same, dR.back nR, dR.2.ne_none nR, ?_, (by show 4 ≤ 20000; decide), fun r hr => ?_⟩
        · exact .cons ⟨A1, rfl, s5 _ _ (s4 _ _ (s3 _ _ (s2 _ _ h1)))⟩ (.cons ⟨A2, rfl, s5 _ _ (s4 _ _ (s3 _ _ h2))⟩ (.cons ⟨A3, rfl, s5 _ _ (s4 _ _ h3)⟩ (.cons ⟨A4, rfl, s5 _ _ h4⟩ .nil)))
        · simp only [List.mem_cons, List.not_mem_nil, or_false] at hr
          rcases hr with rfl | rfl | rfl | rfl
          · exact ⟨by decide, fun x hx => absurd hx (by simp)⟩
          · refine ⟨by show 1 ≤ 60; decide, fun x hx => ?_⟩
            simp only [List.mem_cons, List.not_mem_nil, or_false] at hx
            omega
          · refine ⟨by show 2 ≤ 60; decide, fun x hx => ?_⟩
            simp only [List.mem_cons, List.not_mem_nil, or_false] at hx
            omega
          · refine ⟨by show 3 ≤ 60; decide, fun x hx => ?_⟩
            simp only [List.mem_cons, List.not_mem_nil, or_false] at hx
            omega
    obtain ⟨R0, us, rs, rfl, sB, hR0, nR0, pR0, hRs, lus, okR⟩ := h
    have dB := (Drawn.refl hP).same sB
    have htB := sB _ _ ht
    have tp : t ≠ p := (Pool.ne_tup hP ht).symm
    refine seq_via (fun σ' H3 => ∃ (rw : Addr) (r : List Int), σ' = [some (.ref p), some (.ref t), some (.int (ts.length : Nat)), some (.ref R0), some (.ref rw), none, none, none, none, none, none] ∧ Drawn p H2 H3 ∧ H3 rw = some (.tup (r.map V.int)) ∧ 1 ≤ r.length ∧ r.length ≤ 12 ∧ ∀ x ∈ r, 0 ≤ x ∧ x < (ts.length : Int)) (fun C hC => ?_) (fun σ' H3 h => ?_)
    · refine ⟨.ref p, rfl, p, 12, rfl, dB.2, by decide, by decide, fun nk H3 k0 k1 d3 f3 => ⟨1, nk, rfl, rfl, 1 + nk, rfl, by omega, by omega, fun D nD => ?_⟩⟩
      have pD : p ≠ D := d3.2.ne_none nD
      refine comp_range (n := (1 + nk).toNat) (i := 10) (fun acc H' => Drawn p H2 H' ∧ ∃ r : List Int, acc = r.map V.int ∧ ∀ x ∈ r, 0 ≤ x ∧ x < (ts.length : Int)) ⟨d3.same (same_new nD), [], rfl, fun x hx => absurd hx (by simp)⟩ (fun acc H' lt h hD => ?_) (fun acc H' e h hD => ?_)
      · obtain ⟨d4, r, rfl, hr⟩ := h
        refine ⟨.ref p, rfl, .int (ts.length : Nat), rfl, p, ts.length, rfl, d4.2, by omega, by omega, fun x H5 x0 x1 d5 f5 => ?_⟩
        refine turned (d5.1 _ _ pD.symm hD) (small (by omega)) ⟨(d4.trans d5).at (d3.back nD) pD, r ++ [x], by rw [List.map_append]; rfl, fun y hy => ?_⟩
        rcases List.mem_append.mp hy with h | h
        · exact hr y h
        · rw [List.mem_singleton.mp h]
          exact ⟨x0, x1⟩
      · obtain ⟨d4, r, rfl, hr⟩ := h
        rw [List.length_map] at e
        refine ⟨D, r.map V.int, rfl, .inl ⟨.inl (.inl hD), fun rw nrw => ?_⟩⟩
        exact hC _ _ ⟨rw, r, rfl, d4.same (same_new nrw), upd_same, by omega, by omega, hr⟩
    obtain ⟨rw, r, rfl, d3, hrw, r1, r12, hr⟩ := h
    have lr : (r.map V.int).length = r.length := List.length_map ..
    have rne : r.map V.int ≠ [] := fun z => by rw [z] at lr; simp at lr; omega
    have hR3 := d3.1 _ _ pR0.symm hR0
    have hRs3 := hRs.drawn dB.2 d3
    refine ⟨.ref R0, rfl, .inl ⟨rfl, _, .inl (.inl hR3)⟩, .ref rw, rfl, R0, _, _, rfl, rfl, hR3, small (by omega), ?_⟩
    have hR4 : (upd H3 R0 (.lst (us ++ [V.ref rw]))) R0 = some (.lst (us ++ [V.ref rw])) := upd_same
    have hrw4 : (upd H3 R0 (.lst (us ++ [V.ref rw]))) rw = some (.tup (r.map V.int)) := tup_upd hR3 hrw
    have hRs4 : Rows K (upd H3 R0 (.lst (us ++ [V.ref rw]))) (us ++ [V.ref rw]) (rs ++ [r]) := (hRs3.upd hR3).app (.cons ⟨rw, rfl, hrw4⟩ .nil)
    have ht3 := d3.1 _ _ tp htB
    have ht4 : (upd H3 R0 (.lst (us ++ [V.ref rw]))) t = some (.tup (ts.map V.str)) := tup_upd hR3 ht3
    have d04 : Drawn p H' (upd H3 R0 (.lst (us ++ [V.ref rw]))) := (dB.trans d3).at nR0 pR0
    generalize upd H3 R0 (.lst (us ++ [V.ref rw])) = H4 at hR4 hrw4 hRs4 ht4 d04 ⊢
    refine ⟨.ref R0, rfl, .inl ⟨rfl, _, .inl (.inl hR4)⟩, .ref rw, rfl, rw, 60, r.map V.int, rfl, rfl, .inl (.inl hrw4), rne, by decide, by decide, by rw [lr]; omega, fun z0 nz0 => ?_⟩
    have e5 := same_new (o := .tup (List.replicate (60 : Int).toNat (r.map V.int)).flatten) nz0
    have hz0 : (upd H4 z0 (.tup (List.replicate (60 : Int).toNat (r.map V.int)).flatten)) z0 = some (.tup (List.replicate (60 : Int).toNat (r.map V.int)).flatten) := upd_same
    generalize upd H4 z0 (.tup (List.replicate (60 : Int).toNat (r.map V.int)).flatten) = H5 at e5 hz0 ⊢
    have fl60 : (List.replicate (60 : Int).toNat (r.map V.int)).flatten = ((List.replicate 60 r).flatten).map V.int := flat_map r
    rw [fl60] at hz0
    refine ⟨60, rfl, slA_take (k := 60) hz0 fun b H6 s6 hb => ?_⟩
    rw [← List.map_take] at hb
    have e46 := e5.trans s6
    have hR6 := e46 _ _ hR4
    refine ⟨R0, _, _, rfl, rfl, hR6, small (by rw [List.length_append]; show us.length + 1 ≤ 100000; omega), ?_⟩
    have hR7 : (upd H6 R0 (.lst (us ++ [V.ref rw] ++ [V.ref b]))) R0 = some (.lst (us ++ [V.ref rw] ++ [V.ref b])) := upd_same
    have hrw7 : (upd H6 R0 (.lst (us ++ [V.ref rw] ++ [V.ref b]))) rw = some (.tup (r.map V.int)) := tup_upd hR6 (e46 _ _ hrw4)
    have ht7 : (upd H6 R0 (.lst (us ++ [V.ref rw] ++ [V.ref b]))) t = some (.tup (ts.map V.str)) := tup_upd hR6 (e46 _ _ ht4)
    have hRs7 : Rows K (upd H6 R0 (.lst (us ++ [V.ref rw] ++ [V.ref b]))) (us ++ [V.ref rw] ++ [V.ref b]) (rs ++ [r] ++ [((List.replicate 60 r).flatten).take 60]) := ((hRs4.grow e46).upd hR6).app (.cons ⟨b, rfl, tup_upd hR6 hb⟩ .nil)
    have d07 : Drawn p H' (upd H6 R0 (.lst (us ++ [V.ref rw] ++ [V.ref b]))) := (d04.same e46).at nR0 pR0
    have okR7 : ∀ q ∈ rs ++ [r] ++ [((List.replicate 60 r).flatten).take 60], RowI ts.length q := fun q hq => by
      rcases List.mem_append.mp hq with hq | hq
      · rcases List.mem_append.mp hq with hq | hq
        · exact okR q hq
        · rw [List.mem_singleton.mp hq]
          exact ⟨by omega, hr⟩
      · rw [List.mem_singleton.mp hq]
        refine ⟨by rw [List.length_take]; omega, fun x hx => hr x (flat_mem (List.mem_of_mem_take hx))⟩
    have lus7 : (us ++ [V.ref rw] ++ [V.ref b]).length ≤ 100000 := by rw [List.length_append, List.length_append]; show us.length + 1 + 1 ≤ 100000; omega
    generalize upd H6 R0 (.lst (us ++ [V.ref rw] ++ [V.ref b])) = H7 at hR7 hrw7 ht7 hRs7 d07 ⊢
    generalize us ++ [V.ref rw] ++ [V.ref b] = us7 at hR7 hRs7 lus7
    generalize rs ++ [r] ++ [((List.replicate 60 r).flatten).take 60] = rs7 at hRs7 okR7
    refine ⟨.ref R0, rfl, R0, rfl, ⟨_, .inl (.inl hR7)⟩, ?_⟩
    refine for_list (K := K) (a := R0) (xs := us7) (fun i σ H8 => ∃ y5, σ = [some (.ref p), some (.ref t), some (.int (ts.length : Nat)), some (.ref R0), some (.ref rw), y5, none, none, none, none, none] ∧ Same H7 H8) ⟨none, rfl, Same.refl H7⟩ (fun i σ H8 _ h => ?_) (fun i x σ H8 ex h => ?_) (fun σ H8 h => ?_)
    · obtain ⟨y5, _, k⟩ := h
      exact .inl (.inl (k _ _ hR7))
    · obtain ⟨y5, rfl, k⟩ := h
      have lti : i < us7.length := (List.getElem?_eq_some_iff.mp ex).1
      obtain ⟨q7, er⟩ : ∃ q7, rs7[i]? = some q7 := ⟨_, List.getElem?_eq_getElem (by rw [← Paired.length hRs7]; exact lti)⟩
      obtain ⟨pr, epr, hpr⟩ := hRs7.getT er
      have ex2 : x = .ref pr := Option.some.inj (ex.symm.trans epr)
      subst ex2
      have ok7 := okR7 q7 (List.mem_of_getElem? er)
      have hpr8 := k _ _ hpr
      have ht8 := k _ _ ht7
      refine ⟨.ref t, rfl, .ref pr, rfl, .ref pr, rfl, pr, _, rfl, .inr (.inl (.inl hpr8)), rfl, t, ts, .ref pr, .tuple (q7.map PyData.int), _, rfl, .inl (.inl ht8), hz100, .tup (.inl (.inl hpr8)) (dpAll_ints q7), by show (q7.map PyData.int).length ≤ 1000; rw [List.length_map]; have := ok7.1; omega, fun is ei _ H9 s9 => ?_, fun hno => absurd (ok7.row.symm.trans hno) (by decide)⟩
      have ei2 : q7 = is := by
        exact row_inj ei
      subst ei2
      refine ⟨.ref t, rfl, .ref pr, rfl, t, pr, ts, q7, rfl, .inl (.inl (s9 _ _ ht8)), .inl (.inl (s9 _ _ hpr8)), ok7.1, ok7.2, hz100, ?_⟩
      exact ⟨_, _, .str (rowS ts q7), rfl, .str _, .str _, trivial, fun H10 s10 => ⟨_, rfl, _, rfl, (k.trans s9).trans s10⟩⟩
    obtain ⟨y5, rfl, k⟩ := h
    have d08 := d07.same k
    have ht8 := k _ _ ht7
    have hrw8 := k _ _ hrw7
    refine seq_via (fun σ' H' => H' = H8 ∧ σ' = [some (.ref p), some (.ref t), some (.int (ts.length : Nat)), some (.ref R0), some (.ref rw), y5, none, none, none, none, none]) (fun C hC => hC _ _ ⟨rfl, rfl⟩) (fun σ' H8 h => ?_)
    obtain ⟨rfl, rfl⟩ := h
    refine seq_via (fun σ' H9 => ∃ (L : Addr) (us : List V) (ds : List PyData), σ' = [some (.ref p), some (.ref t), some (.int (ts.length : Nat)), some (.ref R0), some (.ref rw), y5, some (.ref L), none, none, none, none] ∧ Drawn p H8 H9 ∧ H9 L = some (.lst us) ∧ p ≠ L ∧ DpAll K (offP p H9) us ds ∧ us.length = 14 ∧ ∀ d ∈ ds, rowD ts.length d = false ∧ lenD d ≤ 1000) (fun C hC => ?_) (fun σ' H9 h => ?_)
    · have dA : Drawn p H8 H8 := Drawn.refl d08.2
      have cp59 : CPow 10 59 := ⟨by decide, by decide, by decide⟩
      have big59 : ((ts.length : Nat) : Int) ≤ (10 : Int) ^ (59 : Int).toNat := by
        have : (120 : Int) ≤ (10 : Int) ^ (59 : Int).toNat := by decide +kernel
        omega
      have hrw := hrw8
      have ht := ht8
      have qrw : p ≠ rw := d08.2.ne_tup hrw
      have qt : p ≠ t := d08.2.ne_tup ht
      refine ⟨.ref rw, rfl, rw, 61, r.map V.int, rfl, rfl, .inl (.inl hrw), rne, by decide, by decide, by rw [lr]; omega, fun z0 nz0 => ?_⟩
      have e1 : Same H8 (upd H8 z0 (.tup (List.replicate (61 : Int).toNat (r.map V.int)).flatten)) := same_new nz0
      have hz0 : (upd H8 z0 (.tup (List.replicate (61 : Int).toNat (r.map V.int)).flatten)) z0 = some (.tup (List.replicate (61 : Int).toNat (r.map V.int)).flatten) := upd_same
      have qz0 : p ≠ z0 := dA.2.ne_none nz0
      generalize upd H8 z0 (.tup (List.replicate (61 : Int).toNat (r.map V.int)).flatten) = G1 at e1 hz0 ⊢
      have dd1 := dA.same e1
      replace hrw := e1 _ _ hrw
      replace ht := e1 _ _ ht
      have fl61 : (List.replicate (61 : Int).toNat (r.map V.int)).flatten = ((List.replicate 61 r).flatten).map V.int := flat_map r
      rw [fl61] at hz0
      refine ⟨61, rfl, slA_take (k := 61) hz0 fun z1 Gz sz1 hz1 => ?_⟩
      have ddz := dd1.same sz1
      replace hrw := sz1 _ _ hrw
      replace ht := sz1 _ _ ht
      replace hz0 := sz1 _ _ hz0
      rw [← List.map_take] at hz1
      have qz1 : p ≠ z1 := ddz.2.ne_tup hz1
      refine ⟨.ref rw, rfl, rw, _, rfl, .inr (.inl (.inl hrw)), fun l2 nl2 => ?_⟩
      have e2 : Same Gz (upd Gz l2 (.lst (r.map V.int))) := same_new nl2
      have hl2 : (upd Gz l2 (.lst (r.map V.int))) l2 = some (.lst (r.map V.int)) := upd_same
      have ql2 : p ≠ l2 := ddz.2.ne_none nl2
      generalize upd Gz l2 (.lst (r.map V.int)) = G2 at e2 hl2 ⊢
      have dd2 := ddz.same e2
      replace hrw := e2 _ _ hrw
      replace ht := e2 _ _ ht
      replace hz0 := e2 _ _ hz0
      replace hz1 := e2 _ _ hz1
      refine ⟨.ref rw, rfl, .int ts.length, rfl, small' (by simp), fun t3 nt3 => ?_⟩
      have e3 : Same G2 (upd G2 t3 (.tup [.int (ts.length : Int)])) := same_new nt3
      have ht3 : (upd G2 t3 (.tup [.int (ts.length : Int)])) t3 = some (.tup [.int (ts.length : Int)]) := upd_same
      have qt3 : p ≠ t3 := dd2.2.ne_none nt3
      generalize upd G2 t3 (.tup [.int (ts.length : Int)]) = G3 at e3 ht3 ⊢
      have dd3 := dd2.same e3
      replace hrw := e3 _ _ hrw
      replace ht := e3 _ _ ht
      replace hz0 := e3 _ _ hz0
      replace hz1 := e3 _ _ hz1
      replace hl2 := e3 _ _ hl2
      refine ⟨rw, t3, (r.map V.int), [.int (ts.length : Int)], rfl, rfl, .inl (.inl hrw), .inl (.inl ht3), small' (by first | (simp; omega) | (simp [List.length_map]; omega)), fun z => absurd z (rne), fun _ z => absurd z (List.cons_ne_nil _ _), fun _ _ c3 nc3 => ?_⟩
      have e4 : Same G3 (upd G3 c3 (.tup ((r.map V.int) ++ [.int (ts.length : Int)]))) := same_new nc3
      have hc3 : (upd G3 c3 (.tup ((r.map V.int) ++ [.int (ts.length : Int)]))) c3 = some (.tup ((r.map V.int) ++ [.int (ts.length : Int)])) := upd_same
      have qc3 : p ≠ c3 := dd3.2.ne_none nc3
      generalize upd G3 c3 (.tup ((r.map V.int) ++ [.int (ts.length : Int)])) = G4 at e4 hc3 ⊢
      have dd4 := dd3.same e4
      replace hrw := e4 _ _ hrw
      replace ht := e4 _ _ ht
      replace hz0 := e4 _ _ hz0
      replace hz1 := e4 _ _ hz1
      replace hl2 := e4 _ _ hl2
      replace ht3 := e4 _ _ ht3
      refine ⟨1, rfl, small' (by simp), fun t4 nt4 => ?_⟩
      have e5 : Same G4 (upd G4 t4 (.tup [.int (-1)])) := same_new nt4
      have ht4 : (upd G4 t4 (.tup [.int (-1)])) t4 = some (.tup [.int (-1)]) := upd_same
      have qt4 : p ≠ t4 := dd4.2.ne_none nt4
      generalize upd G4 t4 (.tup [.int (-1)]) = G5 at e5 ht4 ⊢
      have dd5 := dd4.same e5
      replace hrw := e5 _ _ hrw
      replace ht := e5 _ _ ht
      replace hz0 := e5 _ _ hz0
      replace hz1 := e5 _ _ hz1
      replace hl2 := e5 _ _ hl2
      replace ht3 := e5 _ _ ht3
      replace hc3 := e5 _ _ hc3
      refine ⟨.ref rw, rfl, ?_⟩
      refine ⟨t4, rw, [.int (-1)], (r.map V.int), rfl, rfl, .inl (.inl ht4), .inl (.inl hrw), small' (by first | (simp; omega) | (simp [List.length_map]; omega)), fun z => absurd z (List.cons_ne_nil _ _), fun _ z => absurd z (rne), fun _ _ c4 nc4 => ?_⟩
      have e6 : Same G5 (upd G5 c4 (.tup ([.int (-1)] ++ (r.map V.int)))) := same_new nc4
      have hc4 : (upd G5 c4 (.tup ([.int (-1)] ++ (r.map V.int)))) c4 = some (.tup ([.int (-1)] ++ (r.map V.int))) := upd_same
      have qc4 : p ≠ c4 := dd5.2.ne_none nc4
      generalize upd G5 c4 (.tup ([.int (-1)] ++ (r.map V.int))) = G6 at e6 hc4 ⊢
      have dd6 := dd5.same e6
      replace hrw := e6 _ _ hrw
      replace ht := e6 _ _ ht
      replace hz0 := e6 _ _ hz0
      replace hz1 := e6 _ _ hz1
      replace hl2 := e6 _ _ hl2
      replace ht3 := e6 _ _ ht3
      replace hc3 := e6 _ _ hc3
      replace ht4 := e6 _ _ ht4
      refine ⟨small' (by simp), fun t5 nt5 => ?_⟩
      have e7 : Same G6 (upd G6 t5 (.tup [.bl true])) := same_new nt5
      have ht5 : (upd G6 t5 (.tup [.bl true])) t5 = some (.tup [.bl true]) := upd_same
      have qt5 : p ≠ t5 := dd6.2.ne_none nt5
      generalize upd G6 t5 (.tup [.bl true]) = G7 at e7 ht5 ⊢
      have dd7 := dd6.same e7
      replace hrw := e7 _ _ hrw
      replace ht := e7 _ _ ht
      replace hz0 := e7 _ _ hz0
      replace hz1 := e7 _ _ hz1
      replace hl2 := e7 _ _ hl2
      replace ht3 := e7 _ _ ht3
      replace hc3 := e7 _ _ hc3
      replace ht4 := e7 _ _ ht4
      replace hc4 := e7 _ _ hc4
      refine ⟨.ref rw, rfl, ?_⟩
      refine ⟨t5, rw, [.bl true], (r.map V.int), rfl, rfl, .inl (.inl ht5), .inl (.inl hrw), small' (by first | (simp; omega) | (simp [List.length_map]; omega)), fun z => absurd z (List.cons_ne_nil _ _), fun _ z => absurd z (rne), fun _ _ c5 nc5 => ?_⟩
      have e8 : Same G7 (upd G7 c5 (.tup ([.bl true] ++ (r.map V.int)))) := same_new nc5
      have hc5 : (upd G7 c5 (.tup ([.bl true] ++ (r.map V.int)))) c5 = some (.tup ([.bl true] ++ (r.map V.int))) := upd_same
      have qc5 : p ≠ c5 := dd7.2.ne_none nc5
      generalize upd G7 c5 (.tup ([.bl true] ++ (r.map V.int))) = G8 at e8 hc5 ⊢
      have dd8 := dd7.same e8
      replace hrw := e8 _ _ hrw
      replace ht := e8 _ _ ht
      replace hz0 := e8 _ _ hz0
      replace hz1 := e8 _ _ hz1
      replace hl2 := e8 _ _ hl2
      replace ht3 := e8 _ _ ht3
      replace hc3 := e8 _ _ hc3
      replace ht4 := e8 _ _ ht4
      replace hc4 := e8 _ _ hc4
      replace ht5 := e8 _ _ ht5
      refine ⟨.ref rw, rfl, small' (by simp), fun t6 nt6 => ?_⟩
      have e9 : Same G8 (upd G8 t6 (.tup [.bl false])) := same_new nt6
      have ht6 : (upd G8 t6 (.tup [.bl false])) t6 = some (.tup [.bl false]) := upd_same
      have qt6 : p ≠ t6 := dd8.2.ne_none nt6
      generalize upd G8 t6 (.tup [.bl false]) = G9 at e9 ht6 ⊢
      have dd9 := dd8.same e9
      replace hrw := e9 _ _ hrw
      replace ht := e9 _ _ ht
      replace hz0 := e9 _ _ hz0
      replace hz1 := e9 _ _ hz1
      replace hl2 := e9 _ _ hl2
      replace ht3 := e9 _ _ ht3
      replace hc3 := e9 _ _ hc3
      replace ht4 := e9 _ _ ht4
      replace hc4 := e9 _ _ hc4
      replace ht5 := e9 _ _ ht5
      replace hc5 := e9 _ _ hc5
      refine ⟨rw, t6, (r.map V.int), [.bl false], rfl, rfl, .inl (.inl hrw), .inl (.inl ht6), small' (by first | (simp; omega) | (simp [List.length_map]; omega)), fun z => absurd z (rne), fun _ z => absurd z (List.cons_ne_nil _ _), fun _ _ c6 nc6 => ?_⟩
      have e10 : Same G9 (upd G9 c6 (.tup ((r.map V.int) ++ [.bl false]))) := same_new nc6
      have hc6 : (upd G9 c6 (.tup ((r.map V.int) ++ [.bl false]))) c6 = some (.tup ((r.map V.int) ++ [.bl false])) := upd_same
      have qc6 : p ≠ c6 := dd9.2.ne_none nc6
      generalize upd G9 c6 (.tup ((r.map V.int) ++ [.bl false])) = G10 at e10 hc6 ⊢
      have dd10 := dd9.same e10
      replace hrw := e10 _ _ hrw
      replace ht := e10 _ _ ht
      replace hz0 := e10 _ _ hz0
      replace hz1 := e10 _ _ hz1
      replace hl2 := e10 _ _ hl2
      replace ht3 := e10 _ _ ht3
      replace hc3 := e10 _ _ hc3
      replace ht4 := e10 _ _ ht4
      replace hc4 := e10 _ _ hc4
      replace ht5 := e10 _ _ ht5
      replace hc5 := e10 _ _ hc5
      replace ht6 := e10 _ _ ht6
      refine ⟨.ref rw, rfl, small' (by simp), fun t10 nt10 => ?_⟩
      have e11 : Same G10 (upd G10 t10 (.tup [.ref rw])) := same_new nt10
      have ht10 : (upd G10 t10 (.tup [.ref rw])) t10 = some (.tup [.ref rw]) := upd_same
      have qt10 : p ≠ t10 := dd10.2.ne_none nt10
      generalize upd G10 t10 (.tup [.ref rw]) = G11 at e11 ht10 ⊢
      have dd11 := dd10.same e11
      replace hrw := e11 _ _ hrw
      replace ht := e11 _ _ ht
      replace hz0 := e11 _ _ hz0
      replace hz1 := e11 _ _ hz1
      replace hl2 := e11 _ _ hl2
      replace ht3 := e11 _ _ ht3
      replace hc3 := e11 _ _ hc3
      replace ht4 := e11 _ _ ht4
      replace hc4 := e11 _ _ hc4
      replace ht5 := e11 _ _ ht5
      replace hc5 := e11 _ _ hc5
      replace ht6 := e11 _ _ ht6
      replace hc6 := e11 _ _ hc6
      refine ⟨.ref rw, rfl, small' (by simp), fun t11 nt11 => ?_⟩
      have e12 : Same G11 (upd G11 t11 (.tup [.str "0"])) := same_new nt11
      have ht11 : (upd G11 t11 (.tup [.str "0"])) t11 = some (.tup [.str "0"]) := upd_same
      have qt11 : p ≠ t11 := dd11.2.ne_none nt11
      generalize upd G11 t11 (.tup [.str "0"]) = G12 at e12 ht11 ⊢
      have dd12 := dd11.same e12
      replace hrw := e12 _ _ hrw
      replace ht := e12 _ _ ht
      replace hz0 := e12 _ _ hz0
      replace hz1 := e12 _ _ hz1
      replace hl2 := e12 _ _ hl2
      replace ht3 := e12 _ _ ht3
      replace hc3 := e12 _ _ hc3
      replace ht4 := e12 _ _ ht4
      replace hc4 := e12 _ _ hc4
      replace ht5 := e12 _ _ ht5
      replace hc5 := e12 _ _ hc5
      replace ht6 := e12 _ _ ht6
      replace hc6 := e12 _ _ hc6
      replace ht10 := e12 _ _ ht10
      refine ⟨rw, t11, (r.map V.int), [.str "0"], rfl, rfl, .inl (.inl hrw), .inl (.inl ht11), small' (by first | (simp; omega) | (simp [List.length_map]; omega)), fun z => absurd z (rne), fun _ z => absurd z (List.cons_ne_nil _ _), fun _ _ c11 nc11 => ?_⟩
      have e13 : Same G12 (upd G12 c11 (.tup ((r.map V.int) ++ [.str "0"]))) := same_new nc11
      have hc11 : (upd G12 c11 (.tup ((r.map V.int) ++ [.str "0"]))) c11 = some (.tup ((r.map V.int) ++ [.str "0"])) := upd_same
      have qc11 : p ≠ c11 := dd12.2.ne_none nc11
      generalize upd G12 c11 (.tup ((r.map V.int) ++ [.str "0"])) = G13 at e13 hc11 ⊢
      have dd13 := dd12.same e13
      replace hrw := e13 _ _ hrw
      replace ht := e13 _ _ ht
      replace hz0 := e13 _ _ hz0
      replace hz1 := e13 _ _ hz1
      replace hl2 := e13 _ _ hl2
      replace ht3 := e13 _ _ ht3
      replace hc3 := e13 _ _ hc3
      replace ht4 := e13 _ _ ht4
      replace hc4 := e13 _ _ hc4
      replace ht5 := e13 _ _ ht5
      replace hc5 := e13 _ _ hc5
      replace ht6 := e13 _ _ ht6
      replace hc6 := e13 _ _ hc6
      replace ht10 := e13 _ _ ht10
      replace ht11 := e13 _ _ ht11
      refine ⟨.ref rw, rfl, small' (by simp), fun l12 nl12 => ?_⟩
      have e14 : Same G13 (upd G13 l12 (.lst [.int 0])) := same_new nl12
      have hl12 : (upd G13 l12 (.lst [.int 0])) l12 = some (.lst [.int 0]) := upd_same
      have ql12 : p ≠ l12 := dd13.2.ne_none nl12
      generalize upd G13 l12 (.lst [.int 0]) = G14 at e14 hl12 ⊢
      have dd14 := dd13.same e14
      replace hrw := e14 _ _ hrw
      replace ht := e14 _ _ ht
      replace hz0 := e14 _ _ hz0
      replace hz1 := e14 _ _ hz1
      replace hl2 := e14 _ _ hl2
      replace ht3 := e14 _ _ ht3
      replace hc3 := e14 _ _ hc3
      replace ht4 := e14 _ _ ht4
      replace hc4 := e14 _ _ hc4
      replace ht5 := e14 _ _ ht5
      replace hc5 := e14 _ _ hc5
      replace ht6 := e14 _ _ ht6
      replace hc6 := e14 _ _ hc6
      replace ht10 := e14 _ _ ht10
      replace ht11 := e14 _ _ ht11
      replace hc11 := e14 _ _ hc11
      refine ⟨small' (by simp), fun t12 nt12 => ?_⟩
      have e15 : Same G14 (upd G14 t12 (.tup [.ref l12])) := same_new nt12
      have ht12 : (upd G14 t12 (.tup [.ref l12])) t12 = some (.tup [.ref l12]) := upd_same
      have qt12 : p ≠ t12 := dd14.2.ne_none nt12
      generalize upd G14 t12 (.tup [.ref l12]) = G15 at e15 ht12 ⊢
      have dd15 := dd14.same e15
      replace hrw := e15 _ _ hrw
      replace ht := e15 _ _ ht
      replace hz0 := e15 _ _ hz0
      replace hz1 := e15 _ _ hz1
      replace hl2 := e15 _ _ hl2
      replace ht3 := e15 _ _ ht3
      replace hc3 := e15 _ _ hc3
      replace ht4 := e15 _ _ ht4
      replace hc4 := e15 _ _ hc4
      replace ht5 := e15 _ _ ht5
      replace hc5 := e15 _ _ hc5
      replace ht6 := e15 _ _ ht6
      replace hc6 := e15 _ _ hc6
      replace ht10 := e15 _ _ ht10
      replace ht11 := e15 _ _ ht11
      replace hc11 := e15 _ _ hc11
      replace hl12 := e15 _ _ hl12
      refine ⟨rw, t12, (r.map V.int), [.ref l12], rfl, rfl, .inl (.inl hrw), .inl (.inl ht12), small' (by first | (simp; omega) | (simp [List.length_map]; omega)), fun z => absurd z (rne), fun _ z => absurd z (List.cons_ne_nil _ _), fun _ _ c12 nc12 => ?_⟩
      have e16 : Same G15 (upd G15 c12 (.tup ((r.map V.int) ++ [.ref l12]))) := same_new nc12
      have hc12 : (upd G15 c12 (.tup ((r.map V.int) ++ [.ref l12]))) c12 = some (.tup ((r.map V.int) ++ [.ref l12])) := upd_same
      have qc12 : p ≠ c12 := dd15.2.ne_none nc12
      generalize upd G15 c12 (.tup ((r.map V.int) ++ [.ref l12])) = G16 at e16 hc12 ⊢
      have dd16 := dd15.same e16
      replace hrw := e16 _ _ hrw
      replace ht := e16 _ _ ht
      replace hz0 := e16 _ _ hz0
      replace hz1 := e16 _ _ hz1
      replace hl2 := e16 _ _ hl2
      replace ht3 := e16 _ _ ht3
      replace hc3 := e16 _ _ hc3
      replace ht4 := e16 _ _ ht4
      replace hc4 := e16 _ _ hc4
      replace ht5 := e16 _ _ ht5
      replace hc5 := e16 _ _ hc5
      replace ht6 := e16 _ _ ht6
      replace hc6 := e16 _ _ hc6
      replace ht10 := e16 _ _ ht10
      replace ht11 := e16 _ _ ht11
      replace hc11 := e16 _ _ hc11
      replace hl12 := e16 _ _ hl12
      replace ht12 := e16 _ _ ht12
      refine ⟨small' (by simp), fun l13 nl13 => ?_⟩
      have e17 : Same G16 (upd G16 l13 (.lst [])) := same_new nl13
      have hl13 : (upd G16 l13 (.lst [])) l13 = some (.lst []) := upd_same
      have ql13 : p ≠ l13 := dd16.2.ne_none nl13
      generalize upd G16 l13 (.lst []) = G17 at e17 hl13 ⊢
      have dd17 := dd16.same e17
      replace hrw := e17 _ _ hrw
      replace ht := e17 _ _ ht
      replace hz0 := e17 _ _ hz0
      replace hz1 := e17 _ _ hz1
      replace hl2 := e17 _ _ hl2
      replace ht3 := e17 _ _ ht3
      replace hc3 := e17 _ _ hc3
      replace ht4 := e17 _ _ ht4
      replace hc4 := e17 _ _ hc4
      replace ht5 := e17 _ _ ht5
      replace hc5 := e17 _ _ hc5
      replace ht6 := e17 _ _ ht6
      replace hc6 := e17 _ _ hc6
      replace ht10 := e17 _ _ ht10
      replace ht11 := e17 _ _ ht11
      replace hc11 := e17 _ _ hc11
      replace hl12 := e17 _ _ hl12
      replace ht12 := e17 _ _ ht12
      replace hc12 := e17 _ _ hc12
      refine ⟨10, 59, rfl, rfl, cp59, small' (by simp), fun t14 nt14 => ?_⟩
      have e18 : Same G17 (upd G17 t14 (.tup [.int ((10 : Int) ^ (59 : Int).toNat)])) := same_new nt14
      have ht14 : (upd G17 t14 (.tup [.int ((10 : Int) ^ (59 : Int).toNat)])) t14 = some (.tup [.int ((10 : Int) ^ (59 : Int).toNat)]) := upd_same
      have qt14 : p ≠ t14 := dd17.2.ne_none nt14
      generalize upd G17 t14 (.tup [.int ((10 : Int) ^ (59 : Int).toNat)]) = G18 at e18 ht14 ⊢
      have dd18 := dd17.same e18
      replace hrw := e18 _ _ hrw
      replace ht := e18 _ _ ht
      replace hz0 := e18 _ _ hz0
      replace hz1 := e18 _ _ hz1
      replace hl2 := e18 _ _ hl2
      replace ht3 := e18 _ _ ht3
      replace hc3 := e18 _ _ hc3
      replace ht4 := e18 _ _ ht4
      replace hc4 := e18 _ _ hc4
      replace ht5 := e18 _ _ ht5
      replace hc5 := e18 _ _ hc5
      replace ht6 := e18 _ _ ht6
      replace hc6 := e18 _ _ hc6
      replace ht10 := e18 _ _ ht10
      replace ht11 := e18 _ _ ht11
      replace hc11 := e18 _ _ hc11
      replace hl12 := e18 _ _ hl12
      replace ht12 := e18 _ _ ht12
      replace hc12 := e18 _ _ hc12
      replace hl13 := e18 _ _ hl13
      refine ⟨small' (by simp), fun L nL => ?_⟩
      have e19 : Same G18 (upd G18 L (.lst [.ref z1, .ref l2, .ref c3, .ref c4, .ref c5, .ref c6, .non, .str "0", .int 0, .ref t10, .ref c11, .ref c12, .ref l13, .ref t14])) := same_new nL
      have hL : (upd G18 L (.lst [.ref z1, .ref l2, .ref c3, .ref c4, .ref c5, .ref c6, .non, .str "0", .int 0, .ref t10, .ref c11, .ref c12, .ref l13, .ref t14])) L = some (.lst [.ref z1, .ref l2, .ref c3, .ref c4, .ref c5, .ref c6, .non, .str "0", .int 0, .ref t10, .ref c11, .ref c12, .ref l13, .ref t14]) := upd_same
      have qL : p ≠ L := dd18.2.ne_none nL
      generalize upd G18 L (.lst [.ref z1, .ref l2, .ref c3, .ref c4, .ref c5, .ref c6, .non, .str "0", .int 0, .ref t10, .ref c11, .ref c12, .ref l13, .ref t14]) = G19 at e19 hL ⊢
      have dd19 := dd18.same e19
      replace hrw := e19 _ _ hrw
      replace ht := e19 _ _ ht
      replace hz0 := e19 _ _ hz0
      replace hz1 := e19 _ _ hz1
      replace hl2 := e19 _ _ hl2
      replace ht3 := e19 _ _ ht3
      replace hc3 := e19 _ _ hc3
      replace ht4 := e19 _ _ ht4
      replace hc4 := e19 _ _ hc4
      replace ht5 := e19 _ _ ht5
      replace hc5 := e19 _ _ hc5
      replace ht6 := e19 _ _ ht6
      replace hc6 := e19 _ _ hc6
      replace ht10 := e19 _ _ ht10
      replace ht11 := e19 _ _ ht11
      replace hc11 := e19 _ _ hc11
      replace hl12 := e19 _ _ hl12
      replace ht12 := e19 _ _ ht12
      replace hc12 := e19 _ _ hc12
      replace hl13 := e19 _ _ hl13
      replace ht14 := e19 _ _ ht14
      refine hC _ _ ⟨L, _, _, rfl, dd19, hL, qL, .cons (.tup (.inl (.inl (offP_at qz1 hz1))) (dpAll_ints _)) (.cons (.lst (.inl (.inl (offP_at ql2 hl2))) (dpAll_ints r)) (.cons (.tup (.inl (.inl (offP_at qc3 hc3))) (dpAll_app (dpAll_ints r) (.cons (.int _) .nil))) (.cons (.tup (.inl (.inl (offP_at qc4 hc4))) (.cons (.int _) (dpAll_ints r))) (.cons (.tup (.inl (.inl (offP_at qc5 hc5))) (.cons (.bl _) (dpAll_ints r))) (.cons (.tup (.inl (.inl (offP_at qc6 hc6))) (dpAll_app (dpAll_ints r) (.cons (.bl _) .nil))) (.cons (.non) (.cons (.str _) (.cons (.int _) (.cons (.tup (.inl (.inl (offP_at qt10 ht10))) (.cons (.tup (.inl (.inl (offP_at qrw hrw))) (dpAll_ints r)) .nil)) (.cons (.tup (.inl (.inl (offP_at qc11 hc11))) (dpAll_app (dpAll_ints r) (.cons (.str _) .nil))) (.cons (.tup (.inl (.inl (offP_at qc12 hc12))) (dpAll_app (dpAll_ints r) (.cons (.lst (.inl (.inl (offP_at ql12 hl12))) (.cons (.int _) .nil)) .nil))) (.cons (.lst (.inl (.inl (offP_at ql13 hl13))) (.nil)) (.cons (.tup (.inl (.inl (offP_at qt14 ht14))) (.cons (.int _) .nil)) (.nil)))))))))))))), rfl, fun d hd => ?_⟩
      simp only [List.mem_cons, List.not_mem_nil, or_false] at hd
      rcases hd with rfl | rfl | rfl | rfl | rfl | rfl | rfl | rfl | rfl | rfl | rfl | rfl | rfl | rfl
      · exact ⟨row_long (by rw [List.length_map, List.length_take, flat_len]; omega), by show List.length _ ≤ 1000; rw [List.length_map, List.length_take, flat_len]; omega⟩
      · exact ⟨rfl, by show List.length _ ≤ 1000; rw [List.length_map]; omega⟩
      · exact ⟨row_no (e := .int ts.length) (List.mem_append_right _ List.mem_cons_self) (below_no (.inr (Int.le_refl _))), by show List.length _ ≤ 1000; rw [List.length_append, List.length_map]; show r.length + 1 ≤ 1000; omega⟩
      · exact ⟨row_no (e := .int (-1)) (List.mem_cons_self) rfl, by show List.length _ ≤ 1000; rw [List.length_cons, List.length_map]; omega⟩
      · exact ⟨row_no (e := .bool true) (List.mem_cons_self) rfl, by show List.length _ ≤ 1000; rw [List.length_cons, List.length_map]; omega⟩
      · exact ⟨row_no (e := .bool false) (List.mem_append_right _ List.mem_cons_self) rfl, by show List.length _ ≤ 1000; rw [List.length_append, List.length_map]; show r.length + 1 ≤ 1000; omega⟩
      · exact ⟨rfl, Nat.le_of_ble_eq_true rfl⟩
      · exact ⟨rfl, Nat.le_of_ble_eq_true rfl⟩
      · exact ⟨rfl, Nat.le_of_ble_eq_true rfl⟩
      · exact ⟨row_no (e := .tuple _) List.mem_cons_self rfl, Nat.le_of_ble_eq_true rfl⟩
      · exact ⟨row_no (e := .str _) (List.mem_append_right _ List.mem_cons_self) rfl, by show List.length _ ≤ 1000; rw [List.length_append, List.length_map]; show r.length + 1 ≤ 1000; omega⟩
      · exact ⟨row_no (e := .list _) (List.mem_append_right _ List.mem_cons_self) rfl, by show List.length _ ≤ 1000; rw [List.length_append, List.length_map]; show r.length + 1 ≤ 1000; omega⟩
      · exact ⟨rfl, Nat.le_of_ble_eq_true rfl⟩
      · exact ⟨row_no (e := .int _) List.mem_cons_self (below_no (.inr big59)), Nat.le_of_ble_eq_true rfl⟩
    obtain ⟨L, us9, ds, rfl, d9, hL, qL, hds, lus9, bad⟩ := h
    refine ⟨4, rfl, by decide, by decide, ?_⟩
    refine for_range0 (n := (4 : Int).toNat) (fun i σ H' => ∃ y7 y8, σ = [some (.ref p), some (.ref t), some (.int (ts.length : Nat)), some (.ref R0), some (.ref rw), y5, some (.ref L), y7, y8, none, none] ∧ Drawn p H9 H') ⟨none, none, rfl, Drawn.refl d9.2⟩ (fun i σ H10 lt h => ?_) (fun σ H10 h => ?_)
    · obtain ⟨y7, y8, rfl, kd⟩ := h
      refine ⟨.ref L, rfl, .ref p, rfl, p, 14, rfl, kd.2, by decide, by decide, fun i0 H11 i00 i01 dd ff => ?_⟩
      have k1 := kd.trans dd
      obtain ⟨v, dv, atv, Dv, mem⟩ := odd_at (dpAll_grow (offP_drawn k1) hds) i00 i01 (by rw [lus9]; rfl)
      obtain ⟨bad1, bad2⟩ := bad dv mem
      refine ⟨L, us9, i0, v, rfl, rfl, .inl (.inl (k1.1 _ _ qL.symm hL)), atv, ?_⟩
      have ht11 := k1.1 _ _ tp (d9.1 _ _ tp ht8)
      refine ⟨.ref t, rfl, v, rfl, .int (i : Nat), rfl, rfl, t, ts, v, dv, _, rfl, .inl (.inl ht11), hz100, Dv, bad2, fun is _ hyes => absurd (bad1.symm.trans hyes) (by decide), fun _ u H12 s12 hu => ?_⟩
      refine ⟨(by show 2 ≤ sizeLine; decide), fun M nM => ?_⟩
      have sM := same_new (o := .lst [V.str "refused", V.str "row"]) nM
      exact ⟨u, .ref M, noD "row", rfl, dp_grow sM hu, no_at upd_same, ok_no _, fun H13 s13 => ⟨_, rfl, _, _, rfl, ((k1.same s12).same sM).same s13⟩⟩
    obtain ⟨y7, y8, rfl, kd⟩ := h
    have d10 := (d08.trans d9).trans kd
    have dt := d9.trans kd
    have ht10 := dt.1 _ _ tp ht8
    have hrw10 := tup_drawn d08.2 dt hrw8
    refine ⟨.ref rw, rfl, rw, _, rfl, .inr (.inl (.inl hrw10)), fun Lt nLt => ?_⟩
    have e1 := same_new (o := .lst (r.map V.int)) nLt
    have hLt : (upd H10 Lt (.lst (r.map V.int))) Lt = some (.lst (r.map V.int)) := upd_same
    generalize upd H10 Lt (.lst (r.map V.int)) = G1 at e1 hLt ⊢
    refine ⟨.ref t, rfl, .ref Lt, rfl, t, ts, .ref Lt, .list (r.map PyData.int), false, rfl, .inl (.inl (e1 _ _ ht10)), hz100, .lst (.inl (.inl hLt)) (dpAll_ints r), by show (r.map PyData.int).length ≤ 1000; rw [List.length_map]; omega, (fun is ei => nomatch ei), fun _ u G2 s2 hu => ?_⟩
    refine ⟨(by show 2 ≤ sizeLine; decide), fun M nM => ?_⟩
    have sM := same_new (o := .lst [V.str "refused", V.str "row"]) nM
    refine ⟨u, .ref M, noD "row", rfl, dp_grow sM hu, no_at upd_same, ok_no _, fun G3 s3 => ⟨_, rfl, ?_⟩⟩
    have e13 := (s2.trans sM).trans s3
    refine ⟨.ref Lt, rfl, .ref rw, rfl, rw, _, rfl, .inr (.inl (.inl (e13 _ _ (e1 _ _ hrw10)))), fun L2 nL2 => ?_⟩
    have e4 := same_new (o := .lst (r.map V.int)) nL2
    refine ⟨.ref Lt, .ref L2, .list (r.map PyData.int), rfl, .lst (.inl (.inl (e4 _ _ (e13 _ _ hLt)))) (dpAll_ints r), .lst (.inl (.inl upd_same)) (dpAll_ints r), ⟨by rw [List.length_map]; omega, fun e he => ?_⟩, fun G5 s5 => q G5 ((((d10.same e1).same e13).same e4).same s5)⟩
    obtain ⟨x, _, rfl⟩ := List.mem_map.mp he
    exact trivial
end
end K1
set_option Elab.async false
set_option linter.all false
set_option maxRecDepth 100000
set_option maxHeartbeats 4000000
namespace K1
open PySem PySem.Spec PyProof.Rows L2 Ver
theorem passAny0 {X : Cx} {σ : L2.St} : PassesAt CX0 X σ L2.E0 := fun _ _ _ _ _ _ h => h.elim
theorem tabs_drawn {T : List (Addr × Str)} {p : Addr} {H H' : Hp} (hp : Pool H p) (d : Drawn p H H') (t : LamX.Tabs T H) : LamX.Tabs T H' := fun x hx => by
  obtain ⟨ps, h1, h2, h3⟩ := t x hx
  obtain ⟨ns, _, _, e⟩ := hp
  refine ⟨ps, d.1 _ _ (fun z => ?_) h1, h2, fun pos cv hc => ?_⟩
  · rw [z, e] at h1
    cases h1
  · obtain ⟨c, e1, e2⟩ := h3 pos cv hc
    refine ⟨c, e1, d.1 _ _ (fun z => ?_) e2⟩
    rw [z, e] at e2
    have e3 := Option.some.inj e2
    unfold LamX.CodeO at e3
    cases e3
theorem pool_extN {p : Addr} {H H' : Hp} (e : LamX.ExtN H H') (hp : Pool H p) : Pool H' p := by
  obtain ⟨ns, a, b, c⟩ := hp
  exact ⟨ns, a, b, e _ _ c fun ps z => by cases z⟩
theorem dpAll_strs {K : PySem.W.Frag} {H : Hp} : ∀ R : List Str, DpAll K H (R.map V.str) (R.map PyData.str)
  | [] => .nil
  | _ :: R => .cons (.str _) (dpAll_strs R)
theorem ok_strs {R : List Str} (h : R.length ≤ 100000) : okD 5 (.tuple (R.map PyData.str)) := ⟨by rw [List.length_map]; exact h, fun e he => by
  obtain ⟨x, _, rfl⟩ := List.mem_map.mp he
  exact trivial⟩
theorem tup_extN {H H' : Hp} {a : Addr} {xs : List V} (e : LamX.ExtN H H') (h : H a = some (.tup xs)) : H' a = some (.tup xs) := e _ _ h fun ps z => by cases z
theorem lst_extN {H H' : Hp} {a : Addr} {xs : List V} (e : LamX.ExtN H H') (h : H a = some (.lst xs)) : H' a = some (.lst xs) := e _ _ h fun ps z => by cases z
section
variable {P : Program} {w : World} {K : PySem.W.Frag} {mg : Str → Option Value} {base : Heap}
def sp_law (K : PySem.W.Frag) (cP : Addr) : Sp := fun vs H Q _ => ∃ (a : Addr) (ns : List Int), vs = [.ref a] ∧ SqL K H a (ns.map V.int) ∧ ns.length ≤ 63 ∧ LamX.Tabs (TT cP) H ∧ ∀ H', Q (.bl true) H'
theorem ok_law {cc cP : Addr} (T : Tx K mg) (TB : Tb T base cc cP) : FnOk P w K mg base CX0 9 T.f_law T.d_law ["script"] (sp_law K cP) := by
  refine T.F_law.ok sc_law (fun vs H Q E h => ?_) (fun cdv A outer s H vs Q E hr h => ?_)
  · obtain ⟨a, ns, rfl, _⟩ := h; rfl
  · obtain ⟨a, ns, rfl, hS, h63, hB, q⟩ := h
    refine ⟨_, (pss_cons (ps_set (i := 1) sc_law.nd rfl (Or.inl rfl) (pe_call (ok__law_pool T) (hr.mono (by decide)) rfl T.g__law_pool T.F__law_pool.kp T.b__law_pool .nil pass0 (pa_cons (pv 0) pa_nil)))
    (pss_cons (ps_set (i := 2) sc_law.nd rfl (Or.inl rfl) (pe_call (ok__law_drawn_tokens T) (hr.mono (by decide)) rfl T.g__law_drawn_tokens T.F__law_drawn_tokens.kp T.b__law_drawn_tokens .nil pass0 (pa_cons (pv 1) pa_nil)))
    (pss_cons (ps_set (i := 3) sc_law.nd rfl (Or.inl rfl) (pe_call (ok__law_drawn_tokens T) (hr.mono (by decide)) rfl T.g__law_drawn_tokens T.F__law_drawn_tokens.kp T.b__law_drawn_tokens .nil pass0 (pa_cons (pv 1) pa_nil)))
    (pss_cons (ps_if (pt_not (pt_val (pe_call (ok__law_same T 5) (hr.mono (by decide)) rfl T.g__law_same T.F__law_same.kp T.b__law_same .nil pass0 (pa_cons (pe_call (ok_inner_texts T TB) (hr.mono (by decide)) rfl T.g_inner_texts T.F_inner_texts.kp T.b_inner_texts .nil pass0 (pa_cons (pv 2) pa_nil)) (pa_cons (pe_call (ok__law_inner T) (hr.mono (by decide)) rfl T.g__law_inner T.F__law_inner.kp T.b__law_inner .nil pass0 (pa_cons (pv 2) pa_nil)) pa_nil))))) (pss_one (ps_ret pe_bl)) pss_nil)
    (pss_cons (ps_for PassesOwn.never rfl (pi_list (pe_lst (pa_cons (pv 3) (pa_cons (pv 2) pa_nil)))) (pg_name (i := 4) sc_law.nd rfl (Or.inl rfl))
    (pss_cons (ps_if (pt_not (pt_val (pe_call (ok__law_texts_right T) (hr.mono (by decide)) rfl T.g__law_texts_right T.F__law_texts_right.kp T.b__law_texts_right .nil pass0 (pa_cons (pv 1) (pa_cons (pv 4) pa_nil))))) (pss_one (ps_ret pe_bl)) pss_nil)
    (pss_cons (ps_if (pt_not (pt_val (pe_call (ok__law_rows_right T) hr rfl T.g__law_rows_right T.F__law_rows_right.kp T.b__law_rows_right .nil pass0 (pa_cons (pv 1) (pa_cons (pv 4) pa_nil))))) (pss_one (ps_ret pe_bl)) pss_nil)
    (pss_one (ps_if (pt_not (pt_val (pe_call (ok__law_same T 5) (hr.mono (by decide)) rfl T.g__law_same T.F__law_same.kp T.b__law_same .nil pass0 (pa_cons (pe_callKw (ok_inner_texts T TB) (hr.mono (by decide)) rfl T.g_inner_texts T.F_inner_texts.kp T.k_inner_texts (fun _ => passAny0) (pk_cons (pv 4) pk_nil)) (pa_cons (pe_call (ok__law_inner T) (hr.mono (by decide)) rfl T.g__law_inner T.F__law_inner.kp T.b__law_inner .nil pass0 (pa_cons (pv 4) pa_nil)) pa_nil))))) (pss_one (ps_ret pe_bl)) pss_nil)))))
    (pss_one (ps_ret pe_bl))))))), ?_⟩
    refine ⟨.ref a, rfl, a, ns, rfl, hS, h63, fun p H1 s1 hP => ?_⟩
    have b1 := hB.ext s1
    refine ⟨.ref p, rfl, p, rfl, hP, fun t1 ts1 H2 ok1 d2 ht1 => ?_⟩
    have b2 := tabs_drawn hP d2 b1
    refine ⟨.ref p, rfl, p, rfl, d2.2, fun t2 ts2 H3 ok2 d3 ht2 => ?_⟩
    have b3 := tabs_drawn d2.2 d3 b2
    have ht1 := tup_drawn d2.2 d3 ht1
    have same1 : ∀ {ts : List Str} {H4 H5 : Hp} {r1 r2 : Addr} {R1 R2 : List Str}, Toks ts → Inner ts R1 → Inner ts R2 → H4 r1 = some (.tup (R1.map V.str)) → Same H4 H5 → H5 r2 = some (.tup (R2.map V.str)) →
        ∃ d, Dp K H5 (.ref r1) d ∧ Dp K H5 (.ref r2) d ∧ okD 5 d := fun {ts H4 H5 r1 r2 R1 R2} ok i1 i2 h1 s h2 => by
      have e := inner_unique i1 i2
      subst e
      exact ⟨.tuple (R1.map PyData.str), .tup (.inl (.inl (s _ _ h1))) (dpAll_strs _), .tup (.inl (.inl h2)) (dpAll_strs _), ok_strs (Nat.le_trans (inner_len ok i1) (by decide))⟩
    refine ⟨.ref t1, rfl, t1, ts1, rfl, .inl (.inl ht1), Nat.le_trans ok1.2.1 (by decide), fun z hz => (ok1.2.2 z hz).2.1, b3, fun H4 R1 r1 x4 b4 in1 hr1 => ?_⟩
    refine ⟨.ref t1, rfl, t1, ts1, rfl, .inl (.inl (tup_extN x4 ht1)), ok1, fun R2 r2 H5 s5 in2 hr2 => ?_⟩
    obtain ⟨dd, dp1, dp2, okd⟩ := same1 ok1 in1 in2 hr1 s5 hr2
    refine ⟨_, _, dd, rfl, dp1, dp2, okd, fun H6 s6 => ⟨_, rfl, ?_⟩⟩
    have s46 := s5.trans s6
    have hP6 : Pool H6 p := (Drawn.refl (pool_extN x4 d3.2)).same s46 |>.2
    have h16 := s46 _ _ (tup_extN x4 ht1)
    have h26 := s46 _ _ (tup_extN x4 ht2)
    have b6 := b4.ext s46
    refine iteF ?_
    refine ⟨.ref t2, rfl, .ref t1, rfl, (by show 2 ≤ sizeLine; decide), fun J nJ => ?_⟩
    have sJ := same_new (o := .lst [V.ref t2, V.ref t1]) nJ
    have hJ : (upd H6 J (.lst [V.ref t2, V.ref t1])) J = some (.lst [V.ref t2, V.ref t1]) := upd_same
    have pJ : p ≠ J := hP6.ne_none nJ
    have hP7 : Pool (upd H6 J (.lst [V.ref t2, V.ref t1])) p := ((Drawn.refl hP6).same sJ).2
    have h17 := sJ _ _ h16
    have h27 := sJ _ _ h26
    have b7 := b6.ext sJ
    generalize upd H6 J (.lst [V.ref t2, V.ref t1]) = H7 at hJ hP7 h17 h27 b7 ⊢
    refine ⟨J, rfl, ⟨_, .inl (.inl hJ)⟩, ?_⟩
    refine for_list (K := K) (a := J) (xs := [V.ref t2, V.ref t1]) (fun i σ H' => ∃ y4, σ = [some (.ref a), some (.ref p), some (.ref t1), some (.ref t2), y4] ∧ Pool H' p ∧ H' t1 = some (.tup (ts1.map V.str)) ∧ H' t2 = some (.tup (ts2.map V.str)) ∧ H' J = some (.lst [V.ref t2, V.ref t1]) ∧ LamX.Tabs (TT cP) H')
      ⟨none, rfl, hP7, h17, h27, hJ, b7⟩ (fun i σ H' _ h => ?_) (fun i x σ H' ex h => ?_) (fun σ H' h => ?_)
    · obtain ⟨_, _, _, _, _, h, _⟩ := h
      exact .inl (.inl h)
    · obtain ⟨y4, rfl, hP', h1', h2', hJ', b'⟩ := h
      obtain ⟨tt, tts, rfl, okt, htt⟩ : ∃ tt tts, x = .ref tt ∧ Toks tts ∧ H' tt = some (.tup (tts.map V.str)) := by
        match i, ex with
        | 0, ex => exact ⟨t2, ts2, (Option.some.inj ex).symm, ok2, h2'⟩
        | 1, ex => exact ⟨t1, ts1, (Option.some.inj ex).symm, ok1, h1'⟩
      refine ⟨.ref p, rfl, .ref tt, rfl, p, tt, tts, rfl, hP', htt, okt, fun H8 d8 => ⟨_, rfl, ?_⟩⟩
      refine ⟨.ref p, rfl, .ref tt, rfl, p, tt, tts, rfl, d8.2, tup_drawn hP' d8 htt, okt, fun H9 d9 => ⟨_, rfl, ?_⟩⟩
      have d89 := d8.trans d9
      have htt9 := tup_drawn hP' d89 htt
      refine ⟨.ref tt, rfl, rfl, tt, tts, rfl, .inl (.inl htt9), Nat.le_trans okt.2.1 (by decide), fun z hz => (okt.2.2 z hz).2.1, tabs_drawn hP' d89 b', fun H10 R1 r1 x10 b10 in1 hr1 => ?_⟩
      refine ⟨.ref tt, rfl, tt, tts, rfl, .inl (.inl (tup_extN x10 htt9)), okt, fun R2 r2 H11 s11 in2 hr2 => ?_⟩
      obtain ⟨dd, dp1, dp2, okd⟩ := same1 okt in1 in2 hr1 s11 hr2
      refine ⟨_, _, dd, rfl, dp1, dp2, okd, fun H12 s12 => ⟨_, rfl, ?_⟩⟩
      have sz := s11.trans s12
      refine ⟨_, rfl, ((Drawn.refl (pool_extN x10 d89.2)).same sz).2, sz _ _ (tup_extN x10 (tup_drawn hP' d89 h1')), sz _ _ (tup_extN x10 (tup_drawn hP' d89 h2')), sz _ _ (lst_extN x10 (d89.1 _ _ pJ.symm hJ')), b10.ext sz⟩
    · exact q H'
end
end K1
set_option Elab.async false
set_option linter.all false
set_option maxRecDepth 100000
set_option maxHeartbeats 8000000
namespace K1
open PySem PySem.Spec PyProof.Rows L2 Ver
theorem exm_self {K : PySem.W.Frag} {S : Addr} (h1 : PySem.W.subIn K (.ref S) (.type "BaseException") = some true) (h2 : PySem.W.isClsIn K S = true) (h3 : PySem.W.typeIn K (.ref S) = some (.type "type")) (h4 : PySem.W.subIn K (.ref S) (.ref S) = some true) :
    PySem.W.exmOne K (.ref S) (.ref S) = some true := by
  have e1 : (PySem.W.subIn K (.ref S) (.type "BaseException") == some true) = true := by rw [h1] <;> rfl
  have e2 : ((PySem.W.clsIn K S).isSome && PySem.W.typeIn K (.ref S) == some (.type "type")) = true := by
    have h2' : (PySem.W.clsIn K S).isSome = true := h2
    rw [h2', h3] <;> rfl
  show (if (PySem.W.subIn K (.ref S) (.type "BaseException") == some true) = true then (if ((PySem.W.clsIn K S).isSome && PySem.W.typeIn K (.ref S) == some (.type "type")) = true then PySem.W.subIn K (.ref S) (.ref S) else none) else none) = some true
  rw [if_pos e1, if_pos e2]
  exact h4
theorem exm_other {K : PySem.W.Frag} {S D : Addr} (h1 : PySem.W.subIn K (.ref S) (.type "BaseException") = some true) (h2 : PySem.W.isClsIn K S = true) (h3 : PySem.W.typeIn K (.ref S) = some (.type "type")) (h4 : PySem.W.subIn K (.ref D) (.ref S) = some false) :
    PySem.W.exmOne K (.ref D) (.ref S) = some false := by
  have e1 : (PySem.W.subIn K (.ref S) (.type "BaseException") == some true) = true := by rw [h1] <;> rfl
  have e2 : ((PySem.W.clsIn K S).isSome && PySem.W.typeIn K (.ref S) == some (.type "type")) = true := by
    have h2' : (PySem.W.clsIn K S).isSome = true := h2
    rw [h2', h3] <;> rfl
  show (if (PySem.W.subIn K (.ref S) (.type "BaseException") == some true) = true then (if ((PySem.W.clsIn K S).isSome && PySem.W.typeIn K (.ref S) == some (.type "type")) = true then PySem.W.subIn K (.ref D) (.ref S) else none) else none) = some false
  rw [if_pos e1, if_pos e2]
  exact h4

theorem all_mk {l : PySem.W.OpenLaw} {w : World} {K : PySem.W.Frag} {h : Heap} {mg : Str → Option Value} {fa C C1 C2 fI cc cP : Addr} (X : K.In h) (G : h.Ns mainGlobals mg) (hfa : mg "law" = some (.ref fa))
    {nm qn : Str} {N : Addr} {bs : List Value} {sn : List Str} {sub : List Value} {ab : Bool} {col : Option Bool} {dd : Option Addr} {m0 m1 m2 m3 m5 : Option Value} {ocI dcI pmI cdI ctI : Value} {odI anI : Option Addr} {slI : Array (Option Value)}
    {f0 f1 f2 f3 f4 f5 f6 f7 f8 f9 f10 f11 f12 f13 f14 f15 f16 f17 f18 f19 f20 f21 f22 f23 f24 f25 f26 f27 f28 f29 : Addr}
    {od0 an0 od1 an1 od2 an2 od3 an3 od4 an4 od5 an5 od6 an6 od7 an7 od8 an8 od9 an9 od10 an10 od11 an11 od12 an12 od13 an13 od14 an14 od15 an15 od16 an16 od17 an17 od18 an18 od19 an19 od20 an20 od21 an21 od22 an22 od23 an23 od24 an24 od25 an25 od26 an26 od27 an27 od28 an28 od29 an29 : Option Addr}
    {sl0 sl1 sl2 sl3 sl4 sl5 sl6 sl7 sl8 sl9 sl10 sl11 sl12 sl13 sl14 sl15 sl16 sl17 sl18 sl19 sl20 sl21 sl22 sl23 sl24 sl25 sl26 sl27 sl28 sl29 : Array (Option Value)}
    {oc0 kV0 dc0 pm0 cd0 ct0 oc1 kV1 dc1 pm1 cd1 ct1 oc2 kV2 dc2 pm2 cd2 ct2 oc3 kV3 dc3 pm3 cd3 ct3 oc4 kV4 dc4 pm4 cd4 ct4 oc5 kV5 dc5 pm5 cd5 ct5 oc6 kV6 dc6 pm6 cd6 ct6 oc7 kV7 dc7 pm7 cd7 ct7 oc8 kV8 dc8 pm8 ct8 oc9 kV9 dc9 pm9 cd9 ct9 oc10 kV10 dc10 pm10 cd10 ct10 oc11 kV11 dc11 pm11 cd11 ct11 oc12 kV12 dc12 pm12 cd12 ct12 oc13 kV13 dc13 pm13 cd13 ct13 oc14 kV14 dc14 pm14 cd14 ct14 oc15 kV15 dc15 pm15 cd15 ct15 oc16 kV16 dc16 pm16 cd16 ct16 oc17 kV17 dc17 pm17 cd17 ct17 oc18 kV18 dc18 pm18 cd18 ct18 oc19 kV19 dc19 pm19 cd19 ct19 oc20 kV20 dc20 pm20 cd20 ct20 oc21 kV21 dc21 pm21 cd21 ct21 oc22 kV22 dc22 pm22 cd22 ct22 oc23 kV23 dc23 pm23 cd23 ct23 oc24 kV24 dc24 pm24 cd24 ct24 oc25 kV25 dc25 pm25 cd25 ct25 oc26 kV26 dc26 pm26 cd26 ct26 oc27 kV27 dc27 pm27 cd27 ct27 oc28 kV28 dc28 pm28 cd28 ct28 oc29 kV29 dc29 pm29 cd29 ct29 : Value}
    (aC : PySem.W.nsIn K mainGlobals "NotUsable" = some (some (.ref C)))
    (xL : K.lookup C = some (excClassObj nm qn C N bs [.ref C2, .ref C1, .type "ValueError", .type "Exception", .type "BaseException", .type "object"] true sn sub ab col dd m0 m1 m2 m3 m5 "ValueError.__new__"))
    (sa : PySem.W.findIn K (.ref C) "__setattr__" = some (some (.builtin "object.__setattr__"))) (ga : PySem.W.findIn K (.ref C) "__getattribute__" = some (some (.builtin "BaseException.__getattribute__"))) (gg : PySem.W.findIn K (.ref C) "__getattr__" = some none) (nb : PySem.W.findIn K (.ref C) "word" = some none)
    (iC : PySem.W.findIn K (.ref C) "__init__" = some (some (.ref fI))) (tI : PySem.W.typeIn K (.ref fI) = some (.type "function"))
    (lI : K.lookup fI = some ⟨ocI, odI, .func (PySem.W.fnOf "__init__" "NotUsable.__init__" (PySem.NUsX.iA ⟨8, 17, 8, 21⟩ ⟨8, 23, 8, 27⟩) (PySem.NUsX.iB ⟨9, 8, 9, 12⟩ ⟨9, 8, 9, 17⟩ ⟨9, 20, 9, 24⟩ ⟨9, 8, 9, 24⟩) PySem.NUsX.iS .none .none dcI pmI anI cdI ctI), slI⟩) (cI : PySem.W.codeIn K cdI "NotUsable.__init__" = true)
    (kC : PySem.W.keepIn K (.ref C) = true) (eC : PySem.W.subIn K (.ref C) (.type "BaseException") = some true) (tC : PySem.W.typeIn K (.ref C) = some (.type "type")) (hC : PySem.W.hasDictIn K C = true) (clC : PySem.W.isClsIn K C = true) (sC : PySem.W.subIn K (.ref C) (.ref C) = some true)
    (a0 : PySem.W.nsIn K mainGlobals "is_int" = some (some (.ref f0))) (l0 : K.lookup f0 = some ⟨oc0, od0, .func (PySem.W.fnOf "is_int" "is_int" (defArgs s_is_int) (defBody s_is_int) (defScope s_is_int) .none kV0 dc0 pm0 an0 cd0 ct0), sl0⟩) (c0 : PySem.W.codeIn K cd0 "is_int" = true) (k0 : PySem.W.keepIn K (.ref f0) = true)
    (a1 : PySem.W.nsIn K mainGlobals "is_number" = some (some (.ref f1))) (l1 : K.lookup f1 = some ⟨oc1, od1, .func (PySem.W.fnOf "is_number" "is_number" (defArgs s_is_number) (defBody s_is_number) (defScope s_is_number) .none kV1 dc1 pm1 an1 cd1 ct1), sl1⟩) (c1 : PySem.W.codeIn K cd1 "is_number" = true) (k1 : PySem.W.keepIn K (.ref f1) = true)
    (a2 : PySem.W.nsIn K mainGlobals "is_text" = some (some (.ref f2))) (l2 : K.lookup f2 = some ⟨oc2, od2, .func (PySem.W.fnOf "is_text" "is_text" (defArgs s_is_text) (defBody s_is_text) (defScope s_is_text) .none kV2 dc2 pm2 an2 cd2 ct2), sl2⟩) (c2 : PySem.W.codeIn K cd2 "is_text" = true) (k2 : PySem.W.keepIn K (.ref f2) = true)
    (a3 : PySem.W.nsIn K mainGlobals "_is_sign" = some (some (.ref f3))) (l3 : K.lookup f3 = some ⟨oc3, od3, .func (PySem.W.fnOf "_is_sign" "_is_sign" (defArgs s__is_sign) (defBody s__is_sign) (defScope s__is_sign) .none kV3 dc3 pm3 an3 cd3 ct3), sl3⟩) (c3 : PySem.W.codeIn K cd3 "_is_sign" = true) (k3 : PySem.W.keepIn K (.ref f3) = true)
    (a4 : PySem.W.nsIn K mainGlobals "is_below" = some (some (.ref f4))) (l4 : K.lookup f4 = some ⟨oc4, od4, .func (PySem.W.fnOf "is_below" "is_below" (defArgs s_is_below) (defBody s_is_below) (defScope s_is_below) .none kV4 dc4 pm4 an4 cd4 ct4), sl4⟩) (c4 : PySem.W.codeIn K cd4 "is_below" = true) (k4 : PySem.W.keepIn K (.ref f4) = true)
    (a5 : PySem.W.nsIn K mainGlobals "are_below" = some (some (.ref f5))) (l5 : K.lookup f5 = some ⟨oc5, od5, .func (PySem.W.fnOf "are_below" "are_below" (defArgs s_are_below) (defBody s_are_below) (defScope s_are_below) .none kV5 dc5 pm5 an5 cd5 ct5), sl5⟩) (c5 : PySem.W.codeIn K cd5 "are_below" = true) (k5 : PySem.W.keepIn K (.ref f5) = true)
    (a6 : PySem.W.nsIn K mainGlobals "ask_row" = some (some (.ref f6))) (l6 : K.lookup f6 = some ⟨oc6, od6, .func (PySem.W.fnOf "ask_row" "ask_row" (defArgs s_ask_row) (defBody s_ask_row) (defScope s_ask_row) .none kV6 dc6 pm6 an6 cd6 ct6), sl6⟩) (c6 : PySem.W.codeIn K cd6 "ask_row" = true) (k6 : PySem.W.keepIn K (.ref f6) = true)
    (a7 : PySem.W.nsIn K mainGlobals "ask_text" = some (some (.ref f7))) (l7 : K.lookup f7 = some ⟨oc7, od7, .func (PySem.W.fnOf "ask_text" "ask_text" (defArgs s_ask_text) (defBody s_ask_text) (defScope s_ask_text) .none kV7 dc7 pm7 an7 cd7 ct7), sl7⟩) (c7 : PySem.W.codeIn K cd7 "ask_text" = true) (k7 : PySem.W.keepIn K (.ref f7) = true)
    (a8 : PySem.W.nsIn K mainGlobals "by_length" = some (some (.ref f8))) (l8 : K.lookup f8 = some ⟨oc8, od8, .func (PySem.W.fnOf "by_length" "by_length" (defArgs s_by_length) (defBody s_by_length) (defScope s_by_length) .none kV8 dc8 pm8 an8 (Value.ref cc) ct8), sl8⟩) (c8 : PySem.W.codeIn K (Value.ref cc) "by_length" = true) (k8 : PySem.W.keepIn K (.ref f8) = true)
    (a9 : PySem.W.nsIn K mainGlobals "inner_texts" = some (some (.ref f9))) (l9 : K.lookup f9 = some ⟨oc9, od9, .func (PySem.W.fnOf "inner_texts" "inner_texts" (defArgs s_inner_texts) (defBody s_inner_texts) (defScope s_inner_texts) .none kV9 dc9 pm9 an9 cd9 ct9), sl9⟩) (c9 : PySem.W.codeIn K cd9 "inner_texts" = true) (k9 : PySem.W.keepIn K (.ref f9) = true)
    (a10 : PySem.W.nsIn K mainGlobals "token_number" = some (some (.ref f10))) (l10 : K.lookup f10 = some ⟨oc10, od10, .func (PySem.W.fnOf "token_number" "token_number" (defArgs s_token_number) (defBody s_token_number) (defScope s_token_number) .none kV10 dc10 pm10 an10 cd10 ct10), sl10⟩) (c10 : PySem.W.codeIn K cd10 "token_number" = true) (k10 : PySem.W.keepIn K (.ref f10) = true)
    (a11 : PySem.W.nsIn K mainGlobals "token_numbers" = some (some (.ref f11))) (l11 : K.lookup f11 = some ⟨oc11, od11, .func (PySem.W.fnOf "token_numbers" "token_numbers" (defArgs s_token_numbers) (defBody s_token_numbers) (defScope s_token_numbers) .none kV11 dc11 pm11 an11 cd11 ct11), sl11⟩) (c11 : PySem.W.codeIn K cd11 "token_numbers" = true) (k11 : PySem.W.keepIn K (.ref f11) = true)
    (a12 : PySem.W.nsIn K mainGlobals "row_text" = some (some (.ref f12))) (l12 : K.lookup f12 = some ⟨oc12, od12, .func (PySem.W.fnOf "row_text" "row_text" (defArgs s_row_text) (defBody s_row_text) (defScope s_row_text) .none kV12 dc12 pm12 an12 cd12 ct12), sl12⟩) (c12 : PySem.W.codeIn K cd12 "row_text" = true) (k12 : PySem.W.keepIn K (.ref f12) = true)
    (a13 : PySem.W.nsIn K mainGlobals "joined" = some (some (.ref f13))) (l13 : K.lookup f13 = some ⟨oc13, od13, .func (PySem.W.fnOf "joined" "joined" (defArgs s_joined) (defBody s_joined) (defScope s_joined) .none kV13 dc13 pm13 an13 cd13 ct13), sl13⟩) (c13 : PySem.W.codeIn K cd13 "joined" = true) (k13 : PySem.W.keepIn K (.ref f13) = true)
    (a14 : PySem.W.nsIn K mainGlobals "_law_pool" = some (some (.ref f14))) (l14 : K.lookup f14 = some ⟨oc14, od14, .func (PySem.W.fnOf "_law_pool" "_law_pool" (defArgs s__law_pool) (defBody s__law_pool) (defScope s__law_pool) .none kV14 dc14 pm14 an14 cd14 ct14), sl14⟩) (c14 : PySem.W.codeIn K cd14 "_law_pool" = true) (k14 : PySem.W.keepIn K (.ref f14) = true)
    (a15 : PySem.W.nsIn K mainGlobals "_law_pick" = some (some (.ref f15))) (l15 : K.lookup f15 = some ⟨oc15, od15, .func (PySem.W.fnOf "_law_pick" "_law_pick" (defArgs s__law_pick) (defBody s__law_pick) (defScope s__law_pick) .none kV15 dc15 pm15 an15 cd15 ct15), sl15⟩) (c15 : PySem.W.codeIn K cd15 "_law_pick" = true) (k15 : PySem.W.keepIn K (.ref f15) = true)
    (a16 : PySem.W.nsIn K mainGlobals "_law_all" = some (some (.ref f16))) (l16 : K.lookup f16 = some ⟨oc16, od16, .func (PySem.W.fnOf "_law_all" "_law_all" (defArgs s__law_all) (defBody s__law_all) (defScope s__law_all) .none kV16 dc16 pm16 an16 cd16 ct16), sl16⟩) (c16 : PySem.W.codeIn K cd16 "_law_all" = true) (k16 : PySem.W.keepIn K (.ref f16) = true)
    (a17 : PySem.W.nsIn K mainGlobals "_law_same" = some (some (.ref f17))) (l17 : K.lookup f17 = some ⟨oc17, od17, .func (PySem.W.fnOf "_law_same" "_law_same" (defArgs s__law_same) (defBody s__law_same) (defScope s__law_same) .none kV17 dc17 pm17 an17 cd17 ct17), sl17⟩) (c17 : PySem.W.codeIn K cd17 "_law_same" = true) (k17 : PySem.W.keepIn K (.ref f17) = true)
    (a18 : PySem.W.nsIn K mainGlobals "_law_word" = some (some (.ref f18))) (l18 : K.lookup f18 = some ⟨oc18, od18, .func (PySem.W.fnOf "_law_word" "_law_word" (defArgs s__law_word) (defBody s__law_word) (defScope s__law_word) .none kV18 dc18 pm18 an18 cd18 ct18), sl18⟩) (c18 : PySem.W.codeIn K cd18 "_law_word" = true) (k18 : PySem.W.keepIn K (.ref f18) = true)
    (a19 : PySem.W.nsIn K mainGlobals "_law_tokens" = some (some (.ref f19))) (l19 : K.lookup f19 = some ⟨oc19, od19, .func (PySem.W.fnOf "_law_tokens" "_law_tokens" (defArgs s__law_tokens) (defBody s__law_tokens) (defScope s__law_tokens) .none kV19 dc19 pm19 an19 cd19 ct19), sl19⟩) (c19 : PySem.W.codeIn K cd19 "_law_tokens" = true) (k19 : PySem.W.keepIn K (.ref f19) = true)
    (a20 : PySem.W.nsIn K mainGlobals "_law_drawn_tokens" = some (some (.ref f20))) (l20 : K.lookup f20 = some ⟨oc20, od20, .func (PySem.W.fnOf "_law_drawn_tokens" "_law_drawn_tokens" (defArgs s__law_drawn_tokens) (defBody s__law_drawn_tokens) (defScope s__law_drawn_tokens) .none kV20 dc20 pm20 an20 cd20 ct20), sl20⟩) (c20 : PySem.W.codeIn K cd20 "_law_drawn_tokens" = true) (k20 : PySem.W.keepIn K (.ref f20) = true)
    (a21 : PySem.W.nsIn K mainGlobals "_law_inner" = some (some (.ref f21))) (l21 : K.lookup f21 = some ⟨oc21, od21, .func (PySem.W.fnOf "_law_inner" "_law_inner" (defArgs s__law_inner) (defBody s__law_inner) (defScope s__law_inner) .none kV21 dc21 pm21 an21 cd21 ct21), sl21⟩) (c21 : PySem.W.codeIn K cd21 "_law_inner" = true) (k21 : PySem.W.keepIn K (.ref f21) = true)
    (a22 : PySem.W.nsIn K mainGlobals "_law_number" = some (some (.ref f22))) (l22 : K.lookup f22 = some ⟨oc22, od22, .func (PySem.W.fnOf "_law_number" "_law_number" (defArgs s__law_number) (defBody s__law_number) (defScope s__law_number) .none kV22 dc22 pm22 an22 cd22 ct22), sl22⟩) (c22 : PySem.W.codeIn K cd22 "_law_number" = true) (k22 : PySem.W.keepIn K (.ref f22) = true)
    (a23 : PySem.W.nsIn K mainGlobals "_law_number_told" = some (some (.ref f23))) (l23 : K.lookup f23 = some ⟨oc23, od23, .func (PySem.W.fnOf "_law_number_told" "_law_number_told" (defArgs s__law_number_told) (defBody s__law_number_told) (defScope s__law_number_told) .none kV23 dc23 pm23 an23 cd23 ct23), sl23⟩) (c23 : PySem.W.codeIn K cd23 "_law_number_told" = true) (k23 : PySem.W.keepIn K (.ref f23) = true)
    (a24 : PySem.W.nsIn K mainGlobals "_law_text_told" = some (some (.ref f24))) (l24 : K.lookup f24 = some ⟨oc24, od24, .func (PySem.W.fnOf "_law_text_told" "_law_text_told" (defArgs s__law_text_told) (defBody s__law_text_told) (defScope s__law_text_told) .none kV24 dc24 pm24 an24 cd24 ct24), sl24⟩) (c24 : PySem.W.codeIn K cd24 "_law_text_told" = true) (k24 : PySem.W.keepIn K (.ref f24) = true)
    (a25 : PySem.W.nsIn K mainGlobals "_law_letters" = some (some (.ref f25))) (l25 : K.lookup f25 = some ⟨oc25, od25, .func (PySem.W.fnOf "_law_letters" "_law_letters" (defArgs s__law_letters) (defBody s__law_letters) (defScope s__law_letters) .none kV25 dc25 pm25 an25 cd25 ct25), sl25⟩) (c25 : PySem.W.codeIn K cd25 "_law_letters" = true) (k25 : PySem.W.keepIn K (.ref f25) = true)
    (a26 : PySem.W.nsIn K mainGlobals "_law_rows" = some (some (.ref f26))) (l26 : K.lookup f26 = some ⟨oc26, od26, .func (PySem.W.fnOf "_law_rows" "_law_rows" (defArgs s__law_rows) (defBody s__law_rows) (defScope s__law_rows) .none kV26 dc26 pm26 an26 cd26 ct26), sl26⟩) (c26 : PySem.W.codeIn K cd26 "_law_rows" = true) (k26 : PySem.W.keepIn K (.ref f26) = true)
    (a27 : PySem.W.nsIn K mainGlobals "_law_texts_right" = some (some (.ref f27))) (l27 : K.lookup f27 = some ⟨oc27, od27, .func (PySem.W.fnOf "_law_texts_right" "_law_texts_right" (defArgs s__law_texts_right) (defBody s__law_texts_right) (defScope s__law_texts_right) .none kV27 dc27 pm27 an27 cd27 ct27), sl27⟩) (c27 : PySem.W.codeIn K cd27 "_law_texts_right" = true) (k27 : PySem.W.keepIn K (.ref f27) = true)
    (a28 : PySem.W.nsIn K mainGlobals "_law_rows_right" = some (some (.ref f28))) (l28 : K.lookup f28 = some ⟨oc28, od28, .func (PySem.W.fnOf "_law_rows_right" "_law_rows_right" (defArgs s__law_rows_right) (defBody s__law_rows_right) (defScope s__law_rows_right) .none kV28 dc28 pm28 an28 cd28 ct28), sl28⟩) (c28 : PySem.W.codeIn K cd28 "_law_rows_right" = true) (k28 : PySem.W.keepIn K (.ref f28) = true)
    (a29 : PySem.W.nsIn K mainGlobals "law" = some (some (.ref f29))) (l29 : K.lookup f29 = some ⟨oc29, od29, .func (PySem.W.fnOf "law" "law" (defArgs s_law) (defBody s_law) (defScope s_law) .none kV29 dc29 pm29 an29 cd29 ct29), sl29⟩) (c29 : PySem.W.codeIn K cd29 "law" = true) (k29 : PySem.W.keepIn K (.ref f29) = true)
    (q_PERCENT : ∃ t, PySem.W.nsIn K mainGlobals "_PERCENT" = some (some (.int (37) t)))
    (qROW_LIMIT : ∃ t, PySem.W.nsIn K mainGlobals "ROW_LIMIT" = some (some (.int (60) t)))
    (qTEXT_LIMIT : ∃ t, PySem.W.nsIn K mainGlobals "TEXT_LIMIT" = some (some (.int (1200) t)))
    (zall : PySem.W.nsIn K mainGlobals "all" = some none)
    (zbool : PySem.W.nsIn K mainGlobals "bool" = some none)
    (zenumerate : PySem.W.nsIn K mainGlobals "enumerate" = some none)
    (zint : PySem.W.nsIn K mainGlobals "int" = some none)
    (zisinstance : PySem.W.nsIn K mainGlobals "isinstance" = some none)
    (zlen : PySem.W.nsIn K mainGlobals "len" = some none)
    (zlist : PySem.W.nsIn K mainGlobals "list" = some none)
    (zord : PySem.W.nsIn K mainGlobals "ord" = some none)
    (zrange : PySem.W.nsIn K mainGlobals "range" = some none)
    (zsorted : PySem.W.nsIn K mainGlobals "sorted" = some none)
    (zstr : PySem.W.nsIn K mainGlobals "str" = some none)
    (ztuple : PySem.W.nsIn K mainGlobals "tuple" = some none)
    (zzip : PySem.W.nsIn K mainGlobals "zip" = some none)
    (hT : h.get? cP = some { cls := .none, data := .fields #[] }) (nT : K.lookup cP = none) (hCd : PySem.W.codeHdIn K cc cP = true)
    : LamX.LawAtS l w K CX0 9 63 "script" mg fa h := by
  have e := hfa.symm.trans (PySem.W.mg_of X G a29)
  cases e
  have nus : PySem.NUsX.NUsTxt K mg C fI :=
    { gC := PySem.W.mg_of X G aC, cls := ⟨nm, qn, N, bs, _, sn, sub, ab, col, dd, m0, m1, m2, m3, m5, xL, by rfl⟩, sa := sa, ga := ga, gg := gg, noN := nb, iC := iC, tC := tI, kC := kC, exC := eC, tyC := tC, hdC := hC, te := exm_self eC clC tC sC,
      fn := ⟨_, _, _, _, _, _, _, _, _, _, _, _, _, _, lI, cI⟩ }
  have F0 := fun_mk (st := s_is_int) l0 c0 k0
  have F1 := fun_mk (st := s_is_number) l1 c1 k1
  have F2 := fun_mk (st := s_is_text) l2 c2 k2
  have F3 := fun_mk (st := s__is_sign) l3 c3 k3
  have F4 := fun_mk (st := s_is_below) l4 c4 k4
  have F5 := fun_mk (st := s_are_below) l5 c5 k5
  have F6 := fun_mk (st := s_ask_row) l6 c6 k6
  have F7 := fun_mk (st := s_ask_text) l7 c7 k7
  have F8 := fun_mk (st := s_by_length) l8 c8 k8
  have F9 := fun_mk (st := s_inner_texts) l9 c9 k9
  have F10 := fun_mk (st := s_token_number) l10 c10 k10
  have F11 := fun_mk (st := s_token_numbers) l11 c11 k11
  have F12 := fun_mk (st := s_row_text) l12 c12 k12
  have F13 := fun_mk (st := s_joined) l13 c13 k13
  have F14 := fun_mk (st := s__law_pool) l14 c14 k14
  have F15 := fun_mk (st := s__law_pick) l15 c15 k15
  have F16 := fun_mk (st := s__law_all) l16 c16 k16
  have F17 := fun_mk (st := s__law_same) l17 c17 k17
  have F18 := fun_mk (st := s__law_word) l18 c18 k18
  have F19 := fun_mk (st := s__law_tokens) l19 c19 k19
  have F20 := fun_mk (st := s__law_drawn_tokens) l20 c20 k20
  have F21 := fun_mk (st := s__law_inner) l21 c21 k21
  have F22 := fun_mk (st := s__law_number) l22 c22 k22
  have F23 := fun_mk (st := s__law_number_told) l23 c23 k23
  have F24 := fun_mk (st := s__law_text_told) l24 c24 k24
  have F25 := fun_mk (st := s__law_letters) l25 c25 k25
  have F26 := fun_mk (st := s__law_rows) l26 c26 k26
  have F27 := fun_mk (st := s__law_texts_right) l27 c27 k27
  have F28 := fun_mk (st := s__law_rows_right) l28 c28 k28
  have F29 := fun_mk (st := s_law) l29 c29 k29
  let T : Tx K mg := {
    f_is_int := _, d_is_int := _, F_is_int := F0, g_is_int := PySem.W.mg_of X G a0, b_is_int := F0.binds (ps := ["thing"]) fun _ _ _ _ _ _ us hl => match us, hl with | [_], _ => rfl
    f_is_number := _, d_is_number := _, F_is_number := F1, g_is_number := PySem.W.mg_of X G a1, b_is_number := F1.binds (ps := ["thing"]) fun _ _ _ _ _ _ us hl => match us, hl with | [_], _ => rfl
    f_is_text := _, d_is_text := _, F_is_text := F2, g_is_text := PySem.W.mg_of X G a2, b_is_text := F2.binds (ps := ["thing"]) fun _ _ _ _ _ _ us hl => match us, hl with | [_], _ => rfl
    f__is_sign := _, d__is_sign := _, F__is_sign := F3, g__is_sign := PySem.W.mg_of X G a3, b__is_sign := F3.binds (ps := ["sign"]) fun _ _ _ _ _ _ us hl => match us, hl with | [_], _ => rfl
    f_is_below := _, d_is_below := _, F_is_below := F4, g_is_below := PySem.W.mg_of X G a4, b_is_below := F4.binds (ps := ["thing", "bound"]) fun _ _ _ _ _ _ us hl => match us, hl with | [_, _], _ => rfl
    f_are_below := _, d_are_below := _, F_are_below := F5, g_are_below := PySem.W.mg_of X G a5, b_are_below := F5.binds (ps := ["thing", "bound"]) fun _ _ _ _ _ _ us hl => match us, hl with | [_, _], _ => rfl
    f_ask_row := _, d_ask_row := _, F_ask_row := F6, g_ask_row := PySem.W.mg_of X G a6, b_ask_row := F6.binds (ps := ["tokens", "row"]) fun _ _ _ _ _ _ us hl => match us, hl with | [_, _], _ => rfl
    f_ask_text := _, d_ask_text := _, F_ask_text := F7, g_ask_text := PySem.W.mg_of X G a7, b_ask_text := F7.binds (ps := ["text"]) fun _ _ _ _ _ _ us hl => match us, hl with | [_], _ => rfl
    f_by_length := _, d_by_length := _, F_by_length := F8, g_by_length := PySem.W.mg_of X G a8, b_by_length := F8.binds (ps := ["things"]) fun _ _ _ _ _ _ us hl => match us, hl with | [_], _ => rfl
    f_inner_texts := _, d_inner_texts := _, F_inner_texts := F9, g_inner_texts := PySem.W.mg_of X G a9, b_inner_texts := F9.binds (ps := ["tokens"]) fun _ _ _ _ _ _ us hl => match us, hl with | [_], _ => rfl
    f_token_number := _, d_token_number := _, F_token_number := F10, g_token_number := PySem.W.mg_of X G a10, b_token_number := F10.binds (ps := ["tokens", "text"]) fun _ _ _ _ _ _ us hl => match us, hl with | [_, _], _ => rfl
    f_token_numbers := _, d_token_numbers := _, F_token_numbers := F11, g_token_numbers := PySem.W.mg_of X G a11, b_token_numbers := F11.binds (ps := ["tokens"]) fun _ _ _ _ _ _ us hl => match us, hl with | [_], _ => rfl
    f_row_text := _, d_row_text := _, F_row_text := F12, g_row_text := PySem.W.mg_of X G a12, b_row_text := F12.binds (ps := ["tokens", "row"]) fun _ _ _ _ _ _ us hl => match us, hl with | [_, _], _ => rfl
    f_joined := _, d_joined := _, F_joined := F13, g_joined := PySem.W.mg_of X G a13, b_joined := F13.binds (ps := ["tokens", "row"]) fun _ _ _ _ _ _ us hl => match us, hl with | [_, _], _ => rfl
    f__law_pool := _, d__law_pool := _, F__law_pool := F14, g__law_pool := PySem.W.mg_of X G a14, b__law_pool := F14.binds (ps := ["script"]) fun _ _ _ _ _ _ us hl => match us, hl with | [_], _ => rfl
    f__law_pick := _, d__law_pick := _, F__law_pick := F15, g__law_pick := PySem.W.mg_of X G a15, b__law_pick := F15.binds (ps := ["pool", "many"]) fun _ _ _ _ _ _ us hl => match us, hl with | [_, _], _ => rfl
    f__law_all := _, d__law_all := _, F__law_all := F16, g__law_all := PySem.W.mg_of X G a16, b__law_all := F16.binds (ps := []) fun _ _ _ _ _ _ us hl => match us, hl with | [], _ => rfl
    f__law_same := _, d__law_same := _, F__law_same := F17, g__law_same := PySem.W.mg_of X G a17, b__law_same := F17.binds (ps := ["told", "due"]) fun _ _ _ _ _ _ us hl => match us, hl with | [_, _], _ => rfl
    f__law_word := _, d__law_word := _, F__law_word := F18, g__law_word := PySem.W.mg_of X G a18, b__law_word := F18.binds (ps := ["pool", "signs", "most"]) fun _ _ _ _ _ _ us hl => match us, hl with | [_, _, _], _ => rfl
    f__law_tokens := _, d__law_tokens := _, F__law_tokens := F19, g__law_tokens := PySem.W.mg_of X G a19, b__law_tokens := F19.binds (ps := ["pool", "many", "signs", "most"]) fun _ _ _ _ _ _ us hl => match us, hl with | [_, _, _, _], _ => rfl
    f__law_drawn_tokens := _, d__law_drawn_tokens := _, F__law_drawn_tokens := F20, g__law_drawn_tokens := PySem.W.mg_of X G a20, b__law_drawn_tokens := F20.binds (ps := ["pool"]) fun _ _ _ _ _ _ us hl => match us, hl with | [_], _ => rfl
    f__law_inner := _, d__law_inner := _, F__law_inner := F21, g__law_inner := PySem.W.mg_of X G a21, b__law_inner := F21.binds (ps := ["tokens"]) fun _ _ _ _ _ _ us hl => match us, hl with | [_], _ => rfl
    f__law_number := _, d__law_number := _, F__law_number := F22, g__law_number := PySem.W.mg_of X G a22, b__law_number := F22.binds (ps := ["tokens", "text"]) fun _ _ _ _ _ _ us hl => match us, hl with | [_, _], _ => rfl
    f__law_number_told := _, d__law_number_told := _, F__law_number_told := F23, g__law_number_told := PySem.W.mg_of X G a23, b__law_number_told := F23.binds (ps := ["tokens", "text", "named"]) fun _ _ _ _ _ _ us hl => match us, hl with | [_, _, _], _ => rfl
    f__law_text_told := _, d__law_text_told := _, F__law_text_told := F24, g__law_text_told := PySem.W.mg_of X G a24, b__law_text_told := F24.binds (ps := ["tokens", "row", "named"]) fun _ _ _ _ _ _ us hl => match us, hl with | [_, _, _], _ => rfl
    f__law_letters := _, d__law_letters := _, F__law_letters := F25, g__law_letters := PySem.W.mg_of X G a25, b__law_letters := F25.binds (ps := ["tokens", "row"]) fun _ _ _ _ _ _ us hl => match us, hl with | [_, _], _ => rfl
    f__law_rows := _, d__law_rows := _, F__law_rows := F26, g__law_rows := PySem.W.mg_of X G a26, b__law_rows := F26.binds (ps := ["m", "most"]) fun _ _ _ _ _ _ us hl => match us, hl with | [_, _], _ => rfl
    f__law_texts_right := _, d__law_texts_right := _, F__law_texts_right := F27, g__law_texts_right := PySem.W.mg_of X G a27, b__law_texts_right := F27.binds (ps := ["pool", "tokens"]) fun _ _ _ _ _ _ us hl => match us, hl with | [_, _], _ => rfl
    f__law_rows_right := _, d__law_rows_right := _, F__law_rows_right := F28, g__law_rows_right := PySem.W.mg_of X G a28, b__law_rows_right := F28.binds (ps := ["pool", "tokens"]) fun _ _ _ _ _ _ us hl => match us, hl with | [_, _], _ => rfl
    f_law := _, d_law := _, F_law := F29, g_law := PySem.W.mg_of X G a29, b_law := F29.binds (ps := ["script"]) fun _ _ _ _ _ _ us hl => match us, hl with | [_], _ => rfl
    k_token_number := ⟨fun s us ws _ hu hw => match us, hu, ws, hw with | [], _, [_, _], _ => .of_eq rfl, fun _ rz => kwr_token_number rz⟩
    k_row_text := ⟨fun s us ws _ hu hw => match us, hu, ws, hw with | [], _, [_, _], _ => .of_eq rfl, fun _ rz => kwr_row_text rz⟩
    k_inner_texts := ⟨fun s us ws _ hu hw => match us, hu, ws, hw with | [], _, [_], _ => .of_eq rfl, fun _ rz => kwr_inner_texts rz⟩
    c__PERCENT := let ⟨t, e⟩ := q_PERCENT; ⟨t, PySem.W.mg_of X G e⟩
    c_ROW_LIMIT := let ⟨t, e⟩ := qROW_LIMIT; ⟨t, PySem.W.mg_of X G e⟩
    c_TEXT_LIMIT := let ⟨t, e⟩ := qTEXT_LIMIT; ⟨t, PySem.W.mg_of X G e⟩
    n_all := PySem.W.mg_none_of X G zall
    n_bool := PySem.W.mg_none_of X G zbool
    n_enumerate := PySem.W.mg_none_of X G zenumerate
    n_int := PySem.W.mg_none_of X G zint
    n_isinstance := PySem.W.mg_none_of X G zisinstance
    n_len := PySem.W.mg_none_of X G zlen
    n_list := PySem.W.mg_none_of X G zlist
    n_ord := PySem.W.mg_none_of X G zord
    n_range := PySem.W.mg_none_of X G zrange
    n_sorted := PySem.W.mg_none_of X G zsorted
    n_str := PySem.W.mg_none_of X G zstr
    n_tuple := PySem.W.mg_none_of X G ztuple
    n_zip := PySem.W.mg_none_of X G zzip
    C_NotUsable := C, I_NotUsable := fI, nus := nus}
  have one : ∀ {A : Addr × Addr → Prop}, A (cc, cP) → ∀ p ∈ [(cc, cP)], A p := fun {A} h p hp => by rw [List.mem_singleton.mp hp]; exact h
  refine ⟨T.d_law, [(cc, cP)], sp_law K cP, one hT, one nT, one (PySem.W.codeHd_of_K X hCd), fun s v => .of_eq rfl, fun H a ns hl _ hB hS => ⟨a, ns, rfl, hS, hl, fun p hp => ?_, fun _ => rfl⟩, fun base _ _ hTB => ok_law T ⟨rfl, hTB (cc, cP) List.mem_cons_self⟩⟩
  rw [List.mem_singleton.mp hp]
  exact LamX.TabS.nil (hB (cc, cP) List.mem_cons_self)
end K1
set_option Elab.async false
set_option linter.all false
set_option maxRecDepth 100000
open PySem PySem.W PyProof.Rows
set_option maxHeartbeats 0 in
theorem PySem.Challenge.cw_stillends_k01_inner_texts_and_rows_holds : PySem.Challenge.rw_stillends_k01_inner_texts_and_rows.Holds := by
  w_on; o_law; k_head; (case hw => w_witness2)
  k_fill
  refine LamX.walk_ofTs (l := PySem.Challenge.rw_stillends_k01_inner_texts_and_rows) (n := 63) (k := 9) (x := "script") (CX := fun _ => L2.CX0) rfl (by decide) rfl ⟨rfl, by decide, by decide⟩ (fun w h Y => PySem.W.km_in_of Y) ?F (fun _ _ _ _ _ h => h)
  case F =>
    intro w mg fa h Y KX G hmg
    have hT8 := PySem.W.km_tabs_of Y
    refine' K1.all_mk KX G hmg ?aC ?xL ?sa ?ga ?gg ?nb ?iC ?tI ?lI ?cI ?kC ?eC ?tC ?hC ?clC ?sC ?a0 ?l0 ?c0 ?k0 ?a1 ?l1 ?c1 ?k1 ?a2 ?l2 ?c2 ?k2 ?a3 ?l3 ?c3 ?k3 ?a4 ?l4 ?c4 ?k4 ?a5 ?l5 ?c5 ?k5 ?a6 ?l6 ?c6 ?k6 ?a7 ?l7 ?c7 ?k7 ?a8 ?l8 ?c8 ?k8 ?a9 ?l9 ?c9 ?k9 ?a10 ?l10 ?c10 ?k10 ?a11 ?l11 ?c11 ?k11 ?a12 ?l12 ?c12 ?k12 ?a13 ?l13 ?c13 ?k13 ?a14 ?l14 ?c14 ?k14 ?a15 ?l15 ?c15 ?k15 ?a16 ?l16 ?c16 ?k16 ?a17 ?l17 ?c17 ?k17 ?a18 ?l18 ?c18 ?k18 ?a19 ?l19 ?c19 ?k19 ?a20 ?l20 ?c20 ?k20 ?a21 ?l21 ?c21 ?k21 ?a22 ?l22 ?c22 ?k22 ?a23 ?l23 ?c23 ?k23 ?a24 ?l24 ?c24 ?k24 ?a25 ?l25 ?c25 ?k25 ?a26 ?l26 ?c26 ?k26 ?a27 ?l27 ?c27 ?k27 ?a28 ?l28 ?c28 ?k28 ?a29 ?l29 ?c29 ?k29 ?q_PERCENT ?qROW_LIMIT ?qTEXT_LIMIT ?zall ?zbool ?zenumerate ?zint ?zisinstance ?zlen ?zlist ?zord ?zrange ?zsorted ?zstr ?ztuple ?zzip ?hT ?nT ?hCd
    (case aC => k_is)
    (case xL => k_is)
    (case sa => k_is)
    (case ga => k_is)
    (case gg => k_is)
    (case nb => k_is)
    (case iC => k_is)
    (case tI => k_is)
    (case lI => k_is)
    (case cI => k_is)
    (case kC => k_is)
    (case eC => k_is)
    (case tC => k_is)
    (case hC => k_is)
    (case clC => k_is)
    (case sC => first | rfl | k_is)
    (case a0 => k_is)
    (case l0 => k_is)
    (case c0 => k_is)
    (case k0 => k_is)
    (case a1 => k_is)
    (case l1 => k_is)
    (case c1 => k_is)
    (case k1 => k_is)
    (case a2 => k_is)
    (case l2 => k_is)
    (case c2 => k_is)
    (case k2 => k_is)
    (case a3 => k_is)
    (case l3 => k_is)
    (case c3 => k_is)
    (case k3 => k_is)
    (case a4 => k_is)
    (case l4 => k_is)
    (case c4 => k_is)
    (case k4 => k_is)
    (case a5 => k_is)
    (case l5 => k_is)
    (case c5 => k_is)
    (case k5 => k_is)
    (case a6 => k_is)
    (case l6 => k_is)
    (case c6 => k_is)
    (case k6 => k_is)
    (case a7 => k_is)
    (case l7 => k_is)
    (case c7 => k_is)
    (case k7 => k_is)
    (case a8 => k_is)
    (case l8 => k_is)
    (case c8 => k_is)
    (case k8 => k_is)
    (case a9 => k_is)
    (case l9 => k_is)
    (case c9 => k_is)
    (case k9 => k_is)
    (case a10 => k_is)
    (case l10 => k_is)
    (case c10 => k_is)
    (case k10 => k_is)
    (case a11 => k_is)
    (case l11 => k_is)
    (case c11 => k_is)
    (case k11 => k_is)
    (case a12 => k_is)
    (case l12 => k_is)
    (case c12 => k_is)
    (case k12 => k_is)
    (case a13 => k_is)
    (case l13 => k_is)
    (case c13 => k_is)
    (case k13 => k_is)
    (case a14 => k_is)
    (case l14 => k_is)
    (case c14 => k_is)
    (case k14 => k_is)
    (case a15 => k_is)
    (case l15 => k_is)
    (case c15 => k_is)
    (case k15 => k_is)
    (case a16 => k_is)
    (case l16 => k_is)
    (case c16 => k_is)
    (case k16 => k_is)
    (case a17 => k_is)
    (case l17 => k_is)
    (case c17 => k_is)
    (case k17 => k_is)
    (case a18 => k_is)
    (case l18 => k_is)
    (case c18 => k_is)
    (case k18 => k_is)
    (case a19 => k_is)
    (case l19 => k_is)
    (case c19 => k_is)
    (case k19 => k_is)
    (case a20 => k_is)
    (case l20 => k_is)
    (case c20 => k_is)
    (case k20 => k_is)
    (case a21 => k_is)
    (case l21 => k_is)
    (case c21 => k_is)
    (case k21 => k_is)
    (case a22 => k_is)
    (case l22 => k_is)
    (case c22 => k_is)
    (case k22 => k_is)
    (case a23 => k_is)
    (case l23 => k_is)
    (case c23 => k_is)
    (case k23 => k_is)
    (case a24 => k_is)
    (case l24 => k_is)
    (case c24 => k_is)
    (case k24 => k_is)
    (case a25 => k_is)
    (case l25 => k_is)
    (case c25 => k_is)
    (case k25 => k_is)
    (case a26 => k_is)
    (case l26 => k_is)
    (case c26 => k_is)
    (case k26 => k_is)
    (case a27 => k_is)
    (case l27 => k_is)
    (case c27 => k_is)
    (case k27 => k_is)
    (case a28 => k_is)
    (case l28 => k_is)
    (case c28 => k_is)
    (case k28 => k_is)
    (case a29 => k_is)
    (case l29 => k_is)
    (case c29 => k_is)
    (case k29 => k_is)
    (case q_PERCENT => exact ⟨_, by k_is⟩)
    (case qROW_LIMIT => exact ⟨_, by k_is⟩)
    (case qTEXT_LIMIT => exact ⟨_, by k_is⟩)
    (case zall => k_is)
    (case zbool => k_is)
    (case zenumerate => k_is)
    (case zint => k_is)
    (case zisinstance => k_is)
    (case zlen => k_is)
    (case zlist => k_is)
    (case zord => k_is)
    (case zrange => k_is)
    (case zsorted => k_is)
    (case zstr => k_is)
    (case ztuple => k_is)
    (case zzip => k_is)
    (case hT => exact hT8 _ List.mem_cons_self)
    (case nT => rfl)
    (case hCd => kernel_rfl)
