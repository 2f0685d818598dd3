import PyProof.Rows.All
import Wide.All
import OpenK.AllK
import Wide.FinOn
import Open.SpecLaws
import KE.OsGo
import HandS.ForSpec
import HandS.Comp
import HandS.Dict
import HandS.Iter
import HandS.Walk
import HandS.SortInts
import HandS.Zip
import HandS.Flow
import HandS.More
import PySem.Challenge.RW_curlingmatch_s01_answers
set_option Elab.async false
set_option linter.all false
set_option maxRecDepth 100000
set_option maxHeartbeats 2000000
namespace Cm
open PySem PySem.Spec PyProof.Rows L2
/-! ### rules that the layer lacks -/
/-- a def of the module: where its name leads, what it promises -/
structure DefOk (P : Program) (w : World) (K : PySem.W.Frag) (mg : Str → Option Value) (base : Heap) (x : Str) (k : Nat) (ps : List Str) (sp : Sp) : Prop where
  ex : ∃ f fd, mg x = some (.ref f) ∧ PySem.W.keepIn K (.ref f) = true ∧ FnOk P w K mg base CX0 k f fd ps sp ∧ Binds K fd ps []
/-- a method of the class at C -/
structure MethOk (P : Program) (w : World) (K : PySem.W.Frag) (mg : Str → Option Value) (base : Heap) (C : Addr) (m : Str) (k : Nat) (ps : List Str) (sp : Sp) : Prop where
  ex : ∃ f fd, Meth K C m f ∧ FnOk P w K mg base CX0 k f fd ps sp ∧ Binds K fd ps []
/-- a class that is made -/
structure MakeOk (P : Program) (w : World) (K : PySem.W.Frag) (mg : Str → Option Value) (base : Heap) (x : Str) (C : Addr) (k : Nat) (ps : List Str) (sp : Sp) : Prop where
  ex : ∃ f fd, mg x = some (.ref C) ∧ Mk K C f ∧ FnOk P w K mg base CX0 k f fd ps sp ∧ Binds K fd ps []
section
variable {X : Cx} {k : Nat} {C : Addr} {ps : List Str} {sp : Sp} {x m : Str} {p pos apos : Pos} {e o : Expr} {es : List Expr} {ta : TE} {t : TA}
theorem pe_callD (D : DefOk X.prog X.w X.K X.mg X.base x k ps sp) (hr : Room k X.A) (hg : Gl X x) (ha : PA X (e :: es) t)
    (hdb : (x == ("__debug__" : Str)) = false := by decide) (he : starEach (e :: es) X.env = (false, eval e X.env) :: starEach es X.env := by rfl)
    (hpl : (backTo pos (starEach es X.env)).any (·.1) = false := by rfl) : PE X (.Call (.Name x p) (e :: es) [] pos) (tCall sp [] E0 t) := by
  obtain ⟨f, fd, hm, hk, F, hb⟩ := D.ex
  exact pe_call F hr hg hm hk hb .nil pass0 ha hdb he hpl
theorem pe_methD {pl : Sem Bool} (he : PE X o ta) (c : Cls X.K C) (M : MethOk X.prog X.w X.K X.mg X.base C m k ps sp) (hr : Room k X.A) (ha : PA X (e :: es) t)
    (hst : starEach (e :: es) X.env = (false, eval e X.env) :: starEach es X.env := by rfl)
    (hpl : (backTo pos (starEach es X.env)).any (·.1) = false := by rfl)
    (ht : eval (.Call (.Attribute o m apos) (e :: es) [] pos) X.env = (do
      let ov ← eval o X.env
      standAt apos.atName
      let (f, first) ← holding [ov] (getMethod ov m pl)
      callWith pos f first (backTo pos (starEach (e :: es) X.env)) (backToKw pos (keywordEach [] X.env))) := by rfl) :
    PE X (.Call (.Attribute o m apos) (e :: es) [] pos) (tMeth C m sp [] E0 ta t) := by
  obtain ⟨f, fd, hm, F, hb⟩ := M.ex
  exact pe_meth (pl := pl) he c hm F hr hb .nil pass0 ha hst hpl ht
theorem pe_meth0D {pl : Sem Bool} (he : PE X o ta) (c : Cls X.K C) (M : MethOk X.prog X.w X.K X.mg X.base C m k ps sp) (hr : Room k X.A)
    (ht : eval (.Call (.Attribute o m apos) [] [] pos) X.env = (do
      let ov ← eval o X.env
      standAt apos.atName
      let (f, first) ← holding [ov] (getMethod ov m pl)
      callWith pos f first (backTo pos (starEach [] X.env)) (backToKw pos (keywordEach [] X.env))) := by rfl) :
    PE X (.Call (.Attribute o m apos) [] [] pos) (tMeth C m sp [] E0 ta tNil) := by
  obtain ⟨f, fd, hm, F, hb⟩ := M.ex
  exact pe_meth0 (pl := pl) he c hm F hr hb .nil pass0 ht
theorem pe_makeD (D : MakeOk X.prog X.w X.K X.mg X.base x C k ps sp) (hr : Room (k + 1) X.A) (hg : Gl X x) (ha : PA X (e :: es) t)
    (hdb : (x == ("__debug__" : Str)) = false := by decide) (he : starEach (e :: es) X.env = (false, eval e X.env) :: starEach es X.env := by rfl)
    (hpl : (backTo pos (starEach es X.env)).any (·.1) = false := by rfl) : PE X (.Call (.Name x p) (e :: es) [] pos) (tMake C sp [] E0 t) := by
  obtain ⟨f, fd, hm, M, F, hb⟩ := D.ex
  exact pe_make M F hr hg hm hb .nil pass0 ha hdb he hpl
theorem pe_makeD0 (D : MakeOk X.prog X.w X.K X.mg X.base x C k ps sp) (hr : Room (k + 1) X.A) (hg : Gl X x)
    (hdb : (x == ("__debug__" : Str)) = false := by decide) : PE X (.Call (.Name x p) [] [] pos) (tMake C sp [] E0 tNil) := by
  obtain ⟨f, fd, hm, M, F, hb⟩ := D.ex
  exact pe_make0 M F hr hg hm hb .nil pass0 hdb
/-- a whole number of the module -/
def GInt (mg : Str → Option Value) (x : Str) (z : Int) : Prop := ∃ t, mg x = some (.int z t)
theorem pe_gi {z : Int} (h : GInt X.mg x z) (hg : Gl X x) (hd : (x == ("__debug__" : Str)) = false := by decide) : PE X (.Name x pos) (tC (.int z)) := by
  obtain ⟨t, h⟩ := h
  exact pe_glob hg h ⟨t, rfl⟩ hd
/-- xs.extend(t), t a tuple -/
def rExtT : V → List V → Hp → VK → Prop := fun x vs H Q => ∃ l b xs zs, x = .ref l ∧ vs = [.ref b] ∧ H l = some (.lst xs) ∧ H b = some (.tup zs) ∧
  xs.length + zs.length ≤ sizeLine ∧ Q .non (upd H l (.lst (xs ++ zs)))
end
section
open PySem.SeqAt
open PySem.AutoSeq1 (wpAny_loadPart')
open PySem.MeetsSeq PySem.MeetsSeq2 PySem.MeetsSeq3
theorem ext_tup (l b : Addr) (xs ys : Array Value) (n n2 : Nat) (dd2 : Option Addr) (sl2 : Array (Option Value))
    (h0 : ¬(!xs.isEmpty && Builtin.List.listTooLong (xs.size + ys.size)) = true) (h1 : xs.size ≤ sizeLine) (h2 : xs.size + ys.size ≤ sizeLine + 1) :
    Meets (Builtin.«list.extend» ⟨[.ref l, .ref b], []⟩)
      (fun _ R s => s.heap.get? l = some { cls := .type "list", dict := none, data := .seq xs n, slots := #[] } ∧
        s.heap.get? b = some { cls := .type "tuple", dict := dd2, data := .seq ys n2, slots := sl2 } ∧
        R (.ok (.ret Value.none)) { s with heap := s.heap.update l (Obj.mapSeq fun x => x ++ ys), toks := s.toks }) :=
  .of_wp fun prog w A R s h => by
    obtain ⟨hp, g, d, tk, os⟩ := s
    obtain ⟨hl, hb, h⟩ := h
    have f1 := AutoSeq1.idx_int
    have f2 := AutoSeq1.sub_tuple_tuple
    have f3 := AutoSeq1.sub_list_list
    have f4 := AutoSeq1.sub_tuple_list
    have f5 := AutoSeq1.sub_list_tuple
    have hz' : (xs ++ ys).size ≤ sizeLine + 1 := by
      rw [Array.size_append]
      exact h2
    wp_walk using (wpAny_updateSeq hl rfl (hz := h1) (_hz' := hz')), wpAny_loadPart' hl, wpAny_loadPart' hb
    exact ⟨_, rfl, h⟩
end
theorem mt_extendT {X : Cx} : MtR X "list.extend" rExtT := by
  intro pins s σ H x vs v us Q I rx rv h
  obtain ⟨l, b, xs, zs, rfl, rfl, hH, hB, hz, q⟩ := h
  cases rx
  obtain ⟨u, rfl, ru⟩ := rv.one
  cases ru
  obtain ⟨z, its, n, r, hl, e⟩ := I.lstM hH
  obtain ⟨its2, r2, ⟨⟨c2, dd2, d2, sl2⟩, e2, hc, n2, hd⟩, _⟩ := I.tuple (SqT.of hB)
  simp only at hc hd
  subst hc hd
  have l2 : zs.length = its2.length := r2.length
  have hsz : its.toArray.size + its2.toArray.size ≤ sizeLine := by
    rw [List.size_toArray, List.size_toArray]
    omega
  have hlong : ¬ (!its.toArray.isEmpty && Builtin.List.listTooLong (its.toArray.size + its2.toArray.size)) = true := by
    intro hq
    rw [notLongL hsz, Bool.and_false] at hq
    cases hq
  refine call_meets PySem.F.slot_list_extend ⟨_, e, rfl⟩ PySem.F.entry_list_extend (PySem.F.args_list_extend_2 _ _)
    (ext_tup l b its.toArray its2.toArray n n2 dd2 sl2 hlong (by rw [List.size_toArray]; omega) (by omega)) ⟨e, e2, ?_⟩
  refine ⟨.non, _, I.lset (its' := its ++ its2) hH e (by simp) (r.append r2) ?_, rfl, q⟩
  rw [List.length_append]
  omega
/-! ### len(set(xs)) of whole numbers -/
/-- those of ns that are met first, in their order -/
def met (ns : List Int) : List Int := PyProof.Rows.firstMet (fun i => ns.getD i 0) ns.length
def tLenSet (K : PySem.W.Frag) (ta : TE) : TE := fun σ H Q => ta σ H fun x H1 => ∃ (l : Addr) (ns : List Int), x = .ref l ∧ SqL K H1 l (ns.map V.int) ∧ ns.length ≤ 4000 ∧ Q (.int ((met ns).length : Nat)) H1
theorem pe_lenSet {X : Cx} {a : Expr} {ta : TE} {p p2 q pos : Pos} (hg : Gl X "len") (hm : X.mg "len" = none) (hg2 : Gl X "set") (hm2 : X.mg "set" = none)
    (ha : PE X a ta) (hc : X.calm = true := by rfl) (na : starEach [a] X.env = (false, eval a X.env) :: starEach [] X.env := by rfl) :
    PE X (.Call (.Name "len" p) [.Call (.Name "set" p2) [a] [] q] [] pos) (tLenSet X.K ta) := by
  constructor
  intro pins s σ H Q I h
  refine Call_ (ld_blt I hg hm PySem.boot_len (PyProof.Rows.callWith_builtin1 (PyProof.Rows.args_cons ?_ rfl) rfl rfl))
  refine Call_ (ld_blt I hg2 hm2 boot_set (PyProof.Rows.callWith_type1 (PyProof.Rows.args_cons ?_ na) na rfl))
  refine thn (ha.run pins s σ H _ I h) fun v s1 ⟨x, H1, I1, r1, l, ns, ex, hq, hl, q1⟩ => PyProof.Rows.args_nil ?_
  subst ex
  cases r1
  obtain ⟨its, r, pl, hz⟩ := I1.list hq
  have hlen : its.toArray.size = ns.length := by
    rw [List.size_toArray, ← r.length, List.length_map]
  have hle : (met ns).length ≤ ns.length := PyProof.Rows.firstMet_length_le _ _
  have hsc : its.toArray.size + 1 < scanBound := by
    rw [hlen]
    unfold scanBound
    omega
  refine call_set_list (I1.ok.hd hc) pl.isList (by simpa using RZ.intsAre_vals r) hsc fun h' tk hS hk => PyProof.Rows.args_nil ?_
  rw [hlen] at hS
  obtain ⟨o, es, ep, t, ho, hex, hd, _, _, _, hf, hn⟩ := hS
  have hn : es.size = (met ns).length := hn
  have I2 : Inv X pins σ H1 { s1 with heap := h', toks := tk } := I1.kept fun b o e => hk b o (Heap.lt_size e) e
  have hfit : (es.size : Int) < 2 ^ 63 := by
    rw [hn]
    omega
  exact call_len_set ho hex hd hf hfit ⟨.int (met ns).length, H1, I2.tok _, ⟨_, by rw [hn]⟩, q1⟩
/-! ### d[k] of a written dict of whole numbers -/
/-- at a: a written dict, its entries es -/
structure KDI (K : PySem.W.Frag) (a : Addr) (es : Array DictEntry) (n : Nat) : Prop where
  at_ : K.lookup a = some ⟨.type "dict", none, .dict es n, #[]⟩
  keys : ∀ e ∈ es, ∃ k : Int, Value.isInt k e.key = true ∧ e.hash = hashInt k
/-- what it holds at k -/
def KGetI (K : PySem.W.Frag) (a : Addr) (k : Int) (v : V) : Prop := ∃ es n u, KDI K a es n ∧ findBy Value.isInt es k = some u ∧ RelV v u
def rIxKI (K : PySem.W.Frag) : R2 := fun x y H Q => ∃ p k v, x = .ref p ∧ y = .int k ∧ KGetI K p k v ∧ Q v H
theorem ix_kdI {X : Cx} : IxR X (rIxKI X.K) := by
  intro value slice pins s σ H x y v u Q I rx ry h hs
  obtain ⟨p, k, r, rfl, rfl, ⟨es, n, u0, D, e, ru⟩, q⟩ := h
  obtain rfl : v = Value.ref p := rx
  obtain ⟨t, rfl⟩ := ry
  have hm : s.heap.MapOf (intKind X.prog X.w) p (fun k => findBy Value.isInt es k) :=
    ⟨_, es, n, I.kIn _ _ D.at_, ⟨rfl, rfl, rfl⟩, rfl, fun e he => D.keys e he, fun _ => rfl⟩
  have hk : (intKind X.prog X.w).is k (.int k t) = true := by
    show (k == k) = true
    exact beq_self_eq_true k
  exact tail_any hm.typeIs slot_dict_getitem.lookup (wpAny_getItem_of hk hm e ⟨r, H, I.tok _, ru, q⟩) hs

/-! ### the text -/
def top (i : Nat) : Stmt := PySem.Challenge.pw_curlingmatch_s01_answers.main.body.getD i (.Pass ⟨0, 0, 0, 0⟩)
abbrev s_side_of : Stmt := top 7
abbrev N_side_of : List Str := ["number", "hammer"]
theorem sc_side_of : FnScope ["number", "hammer"] ["number", "hammer"] (defScope s_side_of) := ⟨rfl, rfl, rfl, by decide +kernel, rfl, by decide +kernel, by decide +kernel⟩
abbrev s_tee_square : Stmt := top 8
abbrev N_tee_square : List Str := ["stone"]
theorem sc_tee_square : FnScope ["stone"] ["stone"] (defScope s_tee_square) := ⟨rfl, rfl, rfl, by decide +kernel, rfl, by decide +kernel, by decide +kernel⟩
abbrev s_in_play : Stmt := top 9
abbrev N_in_play : List Str := ["stone"]
theorem sc_in_play : FnScope ["stone"] ["stone"] (defScope s_in_play) := ⟨rfl, rfl, rfl, by decide +kernel, rfl, by decide +kernel, by decide +kernel⟩
abbrev s_in_house : Stmt := top 10
abbrev N_in_house : List Str := ["stone"]
theorem sc_in_house : FnScope ["stone"] ["stone"] (defScope s_in_house) := ⟨rfl, rfl, rfl, by decide +kernel, rfl, by decide +kernel, by decide +kernel⟩
abbrev s_is_guard : Stmt := top 11
abbrev N_is_guard : List Str := ["stone"]
theorem sc_is_guard : FnScope ["stone"] ["stone"] (defScope s_is_guard) := ⟨rfl, rfl, rfl, by decide +kernel, rfl, by decide +kernel, by decide +kernel⟩
abbrev s_touches_middle_line : Stmt := top 12
abbrev N_touches_middle_line : List Str := ["stone"]
theorem sc_touches_middle_line : FnScope ["stone"] ["stone"] (defScope s_touches_middle_line) := ⟨rfl, rfl, rfl, by decide +kernel, rfl, by decide +kernel, by decide +kernel⟩
abbrev s_lie_clear : Stmt := top 13
abbrev N_lie_clear : List Str := ["one", "other", "across", "up"]
theorem sc_lie_clear : FnScope ["one", "other", "across", "up"] ["one", "other"] (defScope s_lie_clear) := ⟨rfl, rfl, rfl, by decide +kernel, rfl, by decide +kernel, by decide +kernel⟩
abbrev s_all_lie_clear : Stmt := top 14
abbrev N_all_lie_clear : List Str := ["stones", "place", "one", "other"]
theorem sc_all_lie_clear : FnScope ["stones", "place", "one", "other"] ["stones"] (defScope s_all_lie_clear) := ⟨rfl, rfl, rfl, by decide +kernel, rfl, by decide +kernel, by decide +kernel⟩
abbrev s_house_squares : Stmt := top 15
abbrev N_house_squares : List Str := ["stones", "hammer", "side", "stone"]
theorem sc_house_squares : FnScope ["stones", "hammer", "side", "stone"] ["stones", "hammer", "side"] (defScope s_house_squares) := ⟨rfl, rfl, rfl, by decide +kernel, rfl, by decide +kernel, by decide +kernel⟩
abbrev s_count_nearer : Stmt := top 16
abbrev N_count_nearer : List Str := ["own", "others", "square"]
theorem sc_count_nearer : FnScope ["own", "others", "square"] ["own", "others"] (defScope s_count_nearer) := ⟨rfl, rfl, rfl, by decide +kernel, rfl, by decide +kernel, by decide +kernel⟩
abbrev s_end_points : Stmt := top 17
abbrev N_end_points : List Str := ["stones", "hammer", "squares"]
theorem sc_end_points : FnScope ["stones", "hammer", "squares"] ["stones", "hammer"] (defScope s_end_points) := ⟨rfl, rfl, rfl, by decide +kernel, rfl, by decide +kernel, by decide +kernel⟩
abbrev s_Match___init__ : Stmt := inClass (top 37) 0
abbrev N_Match___init__ : List Str := ["self", "ends", "hammer", "seconds"]
theorem sc_Match___init__ : FnScope ["self", "ends", "hammer", "seconds"] ["self", "ends", "hammer", "seconds"] (defScope s_Match___init__) := ⟨rfl, rfl, rfl, by decide +kernel, rfl, by decide +kernel, by decide +kernel⟩
abbrev s_Match_is_over : Stmt := inClass (top 37) 1
abbrev N_Match_is_over : List Str := ["self"]
theorem sc_Match_is_over : FnScope ["self"] ["self"] (defScope s_Match_is_over) := ⟨rfl, rfl, rfl, by decide +kernel, rfl, by decide +kernel, by decide +kernel⟩
abbrev s_Match_points : Stmt := inClass (top 37) 2
abbrev N_Match_points : List Str := ["self", "side", "end"]
theorem sc_Match_points : FnScope ["self", "side", "end"] ["self", "side"] (defScope s_Match_points) := ⟨rfl, rfl, rfl, by decide +kernel, rfl, by decide +kernel, by decide +kernel⟩
abbrev s_Match_standing : Stmt := inClass (top 37) 3
abbrev N_Match_standing : List Str := ["self"]
theorem sc_Match_standing : FnScope ["self"] ["self"] (defScope s_Match_standing) := ⟨rfl, rfl, rfl, by decide +kernel, rfl, by decide +kernel, by decide +kernel⟩
abbrev s_Match_now : Stmt := inClass (top 37) 4
abbrev N_Match_now : List Str := ["self", "over"]
theorem sc_Match_now : FnScope ["self", "over"] ["self"] (defScope s_Match_now) := ⟨rfl, rfl, rfl, by decide +kernel, rfl, by decide +kernel, by decide +kernel⟩
abbrev s_Match_stones : Stmt := inClass (top 37) 5
abbrev N_Match_stones : List Str := ["self", "told", "stone"]
theorem sc_Match_stones : FnScope ["self", "told", "stone"] ["self"] (defScope s_Match_stones) := ⟨rfl, rfl, rfl, by decide +kernel, rfl, by decide +kernel, by decide +kernel⟩
abbrev s_Match_scores : Stmt := inClass (top 37) 6
abbrev N_Match_scores : List Str := ["self", "told", "end"]
theorem sc_Match_scores : FnScope ["self", "told", "end"] ["self"] (defScope s_Match_scores) := ⟨rfl, rfl, rfl, by decide +kernel, rfl, by decide +kernel, by decide +kernel⟩
abbrev s_Match_shot : Stmt := inClass (top 37) 7
abbrev N_Match_shot : List Str := ["self", "points"]
theorem sc_Match_shot : FnScope ["self", "points"] ["self"] (defScope s_Match_shot) := ⟨rfl, rfl, rfl, by decide +kernel, rfl, by decide +kernel, by decide +kernel⟩
abbrev s_Match_can_lie : Stmt := inClass (top 37) 8
abbrev N_Match_can_lie : List Str := ["self", "stones", "stone", "numbers", "known"]
theorem sc_Match_can_lie : FnScope ["self", "stones", "stone", "numbers", "known"] ["self", "stones"] (defScope s_Match_can_lie) := ⟨rfl, rfl, rfl, by decide +kernel, rfl, by decide +kernel, by decide +kernel⟩
abbrev s_Match_breaks_rule_of_guards : Stmt := inClass (top 37) 9
abbrev N_Match_breaks_rule_of_guards : List Str := ["self", "stones", "after", "stone", "others"]
theorem sc_Match_breaks_rule_of_guards : FnScope ["self", "stones", "after", "stone", "others"] ["self", "stones"] (defScope s_Match_breaks_rule_of_guards) := ⟨rfl, rfl, rfl, by decide +kernel, rfl, by decide +kernel, by decide +kernel⟩
abbrev s_Match_deliver : Stmt := inClass (top 37) 10
abbrev N_Match_deliver : List Str := ["self", "stones", "broken"]
theorem sc_Match_deliver : FnScope ["self", "stones", "broken"] ["self", "stones"] (defScope s_Match_deliver) := ⟨rfl, rfl, rfl, by decide +kernel, rfl, by decide +kernel, by decide +kernel⟩
abbrev s_Match_close_end : Stmt := inClass (top 37) 11
abbrev N_Match_close_end : List Str := ["self", "counted"]
theorem sc_Match_close_end : FnScope ["self", "counted"] ["self"] (defScope s_Match_close_end) := ⟨rfl, rfl, rfl, by decide +kernel, rfl, by decide +kernel, by decide +kernel⟩
abbrev s_Match_settle : Stmt := inClass (top 37) 12
abbrev N_Match_settle : List Str := ["self", "left"]
theorem sc_Match_settle : FnScope ["self", "left"] ["self"] (defScope s_Match_settle) := ⟨rfl, rfl, rfl, by decide +kernel, rfl, by decide +kernel, by decide +kernel⟩
abbrev s_Match_take_time : Stmt := inClass (top 37) 13
abbrev N_Match_take_time : List Str := ["self", "side", "seconds", "left"]
theorem sc_Match_take_time : FnScope ["self", "side", "seconds", "left"] ["self", "side", "seconds"] (defScope s_Match_take_time) := ⟨rfl, rfl, rfl, by decide +kernel, rfl, by decide +kernel, by decide +kernel⟩
abbrev s_Match_lose : Stmt := inClass (top 37) 14
abbrev N_Match_lose : List Str := ["self", "side"]
theorem sc_Match_lose : FnScope ["self", "side"] ["self", "side"] (defScope s_Match_lose) := ⟨rfl, rfl, rfl, by decide +kernel, rfl, by decide +kernel, by decide +kernel⟩
abbrev s_Line___init__ : Stmt := inClass (top 38) 0
abbrev N_Line___init__ : List Str := ["self"]
theorem sc_Line___init__ : FnScope ["self"] ["self"] (defScope s_Line___init__) := ⟨rfl, rfl, rfl, by decide +kernel, rfl, by decide +kernel, by decide +kernel⟩
abbrev s_Line_goes_on : Stmt := inClass (top 38) 1
abbrev N_Line_goes_on : List Str := ["self"]
theorem sc_Line_goes_on : FnScope ["self"] ["self"] (defScope s_Line_goes_on) := ⟨rfl, rfl, rfl, by decide +kernel, rfl, by decide +kernel, by decide +kernel⟩
abbrev s_Line_begin : Stmt := inClass (top 38) 2
abbrev N_Line_begin : List Str := ["self", "ends", "hammer", "seconds"]
theorem sc_Line_begin : FnScope ["self", "ends", "hammer", "seconds"] ["self", "ends", "hammer", "seconds"] (defScope s_Line_begin) := ⟨rfl, rfl, rfl, by decide +kernel, rfl, by decide +kernel, by decide +kernel⟩
abbrev s_Line_deliver : Stmt := inClass (top 38) 3
abbrev N_Line_deliver : List Str := ["self", "numbers", "stones", "broken"]
theorem sc_Line_deliver : FnScope ["self", "numbers", "stones", "broken"] ["self", "numbers"] (defScope s_Line_deliver) := ⟨rfl, rfl, rfl, by decide +kernel, rfl, by decide +kernel, by decide +kernel⟩
abbrev s_Line_time : Stmt := inClass (top 38) 4
abbrev N_Line_time : List Str := ["self", "side", "seconds", "left"]
theorem sc_Line_time : FnScope ["self", "side", "seconds", "left"] ["self", "side", "seconds"] (defScope s_Line_time) := ⟨rfl, rfl, rfl, by decide +kernel, rfl, by decide +kernel, by decide +kernel⟩
abbrev s_Line_give : Stmt := inClass (top 38) 5
abbrev N_Line_give : List Str := ["self", "side"]
theorem sc_Line_give : FnScope ["self", "side"] ["self", "side"] (defScope s_Line_give) := ⟨rfl, rfl, rfl, by decide +kernel, rfl, by decide +kernel, by decide +kernel⟩
abbrev s_Line_look : Stmt := inClass (top 38) 6
abbrev N_Line_look : List Str := ["self", "call"]
theorem sc_Line_look : FnScope ["self", "call"] ["self", "call"] (defScope s_Line_look) := ⟨rfl, rfl, rfl, by decide +kernel, rfl, by decide +kernel, by decide +kernel⟩
abbrev s_is_guard_moved : Stmt := top 39
abbrev N_is_guard_moved : List Str := ["before", "after"]
theorem sc_is_guard_moved : FnScope ["before", "after"] ["before", "after"] (defScope s_is_guard_moved) := ⟨rfl, rfl, rfl, by decide +kernel, rfl, by decide +kernel, by decide +kernel⟩
abbrev s_is_side : Stmt := top 40
abbrev N_is_side : List Str := ["number"]
theorem sc_is_side : FnScope ["number"] ["number"] (defScope s_is_side) := ⟨rfl, rfl, rfl, by decide +kernel, rfl, by decide +kernel, by decide +kernel⟩
abbrev s_stones_of : Stmt := top 41
abbrev N_stones_of : List Str := ["numbers", "at"]
theorem sc_stones_of : FnScope ["numbers", "at"] ["numbers"] (defScope s_stones_of) := ⟨rfl, rfl, rfl, by decide +kernel, rfl, by decide +kernel, by decide +kernel⟩
abbrev s_are_stones : Stmt := top 42
abbrev N_are_stones : List Str := ["numbers", "number", "x", "y"]
theorem sc_are_stones : FnScope ["numbers", "number", "x", "y"] ["numbers"] (defScope s_are_stones) := ⟨rfl, rfl, rfl, by decide +kernel, rfl, by decide +kernel, by decide +kernel⟩
abbrev s_numbers_of_call : Stmt := top 43
abbrev N_numbers_of_call : List Str := ["calls", "at", "first", "behind"]
theorem sc_numbers_of_call : FnScope ["calls", "at", "first", "behind"] ["calls", "at"] (defScope s_numbers_of_call) := ⟨rfl, rfl, rfl, by decide +kernel, rfl, by decide +kernel, by decide +kernel⟩
abbrev s_answer_call : Stmt := top 44
abbrev N_answer_call : List Str := ["line", "call", "numbers"]
theorem sc_answer_call : FnScope ["line", "call", "numbers"] ["line", "call", "numbers"] (defScope s_answer_call) := ⟨rfl, rfl, rfl, by decide +kernel, rfl, by decide +kernel, by decide +kernel⟩
abbrev s_answers : Stmt := top 45
abbrev N_answers : List Str := ["calls", "line", "answered", "at", "numbers", "behind", "answer"]
theorem sc_answers : FnScope ["calls", "line", "answered", "at", "numbers", "behind", "answer"] ["calls"] (defScope s_answers) := ⟨rfl, rfl, rfl, by decide +kernel, rfl, by decide +kernel, by decide +kernel⟩
end Cm

namespace Cm
open PySem PySem.Spec PyProof.Rows L2
/-! ### what the top has written -/
structure Txt (K : PySem.W.Frag) (mg : Str → Option Value) (CM CL AD : Addr) : Prop where
  clM : Cls K CM
  clL : Cls K CL
  aEnds : NoAttr K CM "ends"
  aHammer : NoAttr K CM "hammer"
  aSeconds : NoAttr K CM "seconds_left"
  aEnded : NoAttr K CM "ended"
  aDelivered : NoAttr K CM "delivered"
  aLying : NoAttr K CM "lying"
  aWinner : NoAttr K CM "winner"
  aCurrent : NoAttr K CL "current"
  nabs : mg "abs" = none
  nlen : mg "len" = none
  nsum : mg "sum" = none
  nany : mg "any" = none
  nmax : mg "max" = none
  nset : mg "set" = none
  nsorted : mg "sorted" = none
  nrange : mg "range" = none
  nenumerate : mg "enumerate" = none
  gPLAY_X : GInt mg "PLAY_X" 2230
  gPLAY_Y_BELOW : GInt mg "PLAY_Y_BELOW" 1974
  gPLAY_Y_ABOVE : GInt mg "PLAY_Y_ABOVE" 6256
  gHOUSE : GInt mg "HOUSE" 1974
  gMIDDLE_LINE : GInt mg "MIDDLE_LINE" 145
  gCLEAR : GInt mg "CLEAR" 288
  gBEGIN : GInt mg "BEGIN" 1
  gDELIVER : GInt mg "DELIVER" 2
  gTIME : GInt mg "TIME" 3
  gGIVE : GInt mg "GIVE" 4
  gNOW : GInt mg "NOW" 5
  gSTONES : GInt mg "STONES" 6
  gSCORES : GInt mg "SCORES" 7
  gNOT_AS_TOLD : GInt mg "NOT_AS_TOLD" (-1)
  gNO_MATCH : GInt mg "NO_MATCH" (-2)
  gCANNOT_LIE_SO : GInt mg "CANNOT_LIE_SO" (-4)
  gNOBODY : GInt mg "NOBODY" (-1)
  gMOST_ENDS : GInt mg "MOST_ENDS" 12
  gMOST_SECONDS : GInt mg "MOST_SECONDS" 10000
  gFARTHEST : GInt mg "FARTHEST" 10000
  gSTONES_OF_AN_END : GInt mg "STONES_OF_AN_END" 16
  gGUARDED_DELIVERIES : GInt mg "GUARDED_DELIVERIES" 5
  gSECONDS_MORE : GInt mg "SECONDS_MORE" 270
  gWHOLE_NUMBERS : mg "WHOLE_NUMBERS" = some (.ref AD)
  wn : ∀ k v : Int, (k, v) ∈ ([(1, 3), (3, 2), (4, 1), (5, 0), (6, 0), (7, 0), (8, 0)] : List (Int × Int)) → KGetI K AD k (.int v)
/-! ### stones -/
abbrev Stone := Kg65.Stone
/-- a stone as the tuple that it is -/
def sv (s : Stone) : List V := [.int s.number, .int s.x, .int s.y]
structure Near (s : Stone) : Prop where
  x1 : -10000 ≤ s.x
  x2 : s.x ≤ 10000
  y1 : -10000 ≤ s.y
  y2 : s.y ≤ 10000
theorem at0 (s : Stone) : atI (sv s) 0 = some (.int s.number) := atI_nat (j := 0) rfl
theorem at1 (s : Stone) : atI (sv s) 1 = some (.int s.x) := atI_nat (j := 1) rfl
theorem at2 (s : Stone) : atI (sv s) 2 = some (.int s.y) := atI_nat (j := 2) rfl
theorem bl_of {Q : VK} {a b : Bool} {H : Hp} (q : Q (.bl a) H) (e : b = a) : Q (.bl b) H := e ▸ q
theorem int_of {Q : VK} {a b : Int} {H : Hp} (q : Q (.int a) H) (e : b = a) : Q (.int b) H := e ▸ q
def sideZ (n h : Int) : Int := if n.fmod 2 = 1 then h else 1 - h
def spSide : Sp := fun vs H Q _ => ∃ n h : Int, vs = [.int n, .int h] ∧ Q (.int (sideZ n h)) H
def spStone (g : Stone → V) : Sp := fun vs H Q _ => ∃ (t : Addr) (s : Stone), vs = [.ref t] ∧ H t = some (.tup (sv s)) ∧ Near s ∧ Q (g s) H
def spTwo (g : Stone → Stone → V) : Sp := fun vs H Q _ => ∃ (t u : Addr) (a b : Stone), vs = [.ref t, .ref u] ∧ H t = some (.tup (sv a)) ∧ H u = some (.tup (sv b)) ∧ Near a ∧ Near b ∧ Q (g a b) H
def spIsSide : Sp := fun vs H Q _ => ∃ n : Int, vs = [.int n] ∧ Q (.bl (Kg65.within n 0 1)) H
/-- what the rule asks of one stone: before, and (if it is still there) after -/
def moved (a : Stone) (o : Option Stone) : Bool := a.guard && (match o with
  | none => true
  | some b => a.central && !b.central)
def spMoved : Sp := fun vs H Q _ => ∃ (t : Addr) (a : Stone) (v : V) (o : Option Stone), vs = [.ref t, v] ∧ H t = some (.tup (sv a)) ∧ Near a ∧
  ((v = .non ∧ o = none) ∨ ∃ (u : Addr) (b : Stone), v = .ref u ∧ o = some b ∧ H u = some (.tup (sv b)) ∧ Near b) ∧ Q (.bl (moved a o)) H
section
variable {P : Program} {w : World} {K : PySem.W.Frag} {mg : Str → Option Value} {base : Heap} {CM CL AD : Addr}
theorem ok_side_of {f : Addr} {fd : FuncData} (F : Fun K "side_of" "side_of" s_side_of f fd) : FnOk P w K mg base CX0 1 f fd ["number", "hammer"] spSide := by
  refine F.ok sc_side_of (fun vs H Q E h => ?_) (fun cdv A outer s H vs Q E hr h => ?_)
  · obtain ⟨n, h, rfl, _⟩ := h
    rfl
  · obtain ⟨n, hm, rfl, q⟩ := h
    refine ⟨_, (pss_cons (ps_if (pt_cmpR op_eq (pe_op op_modN (pv 0) pe_int) pe_int (nomark _))
          (pss_one (ps_ret (pv 1)))
          pss_nil)
        (pss_one (ps_ret (pe_op op_sub pe_int (pv 1))))), ?_⟩
    refine ⟨_, rfl, _, _, rfl, rfl, (by show (2 : Int) ≠ 0; decide), rfl, _, rfl, ite2 (fun c => ?_) (fun c => ?_)⟩
    · refine ⟨_, rfl, int_of q ?_⟩
      have c := V.int.inj (of_decide_eq_true c)
      exact (if_pos c).symm
    · refine ⟨_, rfl, _, _, rfl, rfl, int_of q ?_⟩
      have c : ¬ n.fmod 2 = 1 := fun z => c (decide_eq_true (congrArg V.int z))
      exact (if_neg c).symm
theorem ok_tee_square {f : Addr} {fd : FuncData} (F : Fun K "tee_square" "tee_square" s_tee_square f fd) : FnOk P w K mg base CX0 1 f fd ["stone"] (spStone fun s => .int s.far) := by
  refine F.ok sc_tee_square (fun vs H Q E h => ?_) (fun cdv A outer s H vs Q E hr h => ?_)
  · obtain ⟨n, h, rfl, _⟩ := h
    rfl
  · obtain ⟨t, s, rfl, ht, nr, q⟩ := h
    have n1 := nr.x1
    have n2 := nr.x2
    have n3 := nr.y1
    have n4 := nr.y2
    refine ⟨_, (pss_one (ps_ret (pe_op op_add (pe_op op_mul (pe_ix ix_tup (pv 0) pe_int (fun _ _ => rfl)) (pe_ix ix_tup (pv 0) pe_int (fun _ _ => rfl))) (pe_op op_mul (pe_ix ix_tup (pv 0) pe_int (fun _ _ => rfl)) (pe_ix ix_tup (pv 0) pe_int (fun _ _ => rfl)))))), ?_⟩
    refine ⟨_, rfl, t, _, 1, _, rfl, rfl, SqT.of ht, at1 _, _, rfl, t, _, 1, _, rfl, rfl, SqT.of ht, at1 _, _, _, rfl, rfl, .inl ⟨by omega, by omega⟩, _, rfl, t, _, 2, _, rfl, rfl, SqT.of ht, at2 _, _, rfl, t, _, 2, _, rfl, rfl, SqT.of ht, at2 _, _, _, rfl, rfl, .inl ⟨by omega, by omega⟩, _, _, rfl, rfl, q⟩
theorem ok_in_play {f : Addr} {fd : FuncData} (F : Fun K "in_play" "in_play" s_in_play f fd) (T : Txt K mg CM CL AD) : FnOk P w K mg base CX0 1 f fd ["stone"] (spStone fun s => .bl s.inPlay) := by
  refine F.ok sc_in_play (fun vs H Q E h => ?_) (fun cdv A outer s H vs Q E hr h => ?_)
  · obtain ⟨n, h, rfl, _⟩ := h
    rfl
  · obtain ⟨t, s, rfl, ht, nr, q⟩ := h
    refine ⟨_, (pss_one (ps_ret (pe_and (pe_cmpR op_le (pe_callB call_abs (by rfl) T.nabs (by decide +kernel) (pa_cons (pe_ix ix_tup (pv 0) pe_int (fun _ _ => rfl)) pa_nil)) (pe_gi T.gPLAY_X rfl) (nomark _)) (pe_one (pe_chain op_le op_le (pe_un un_neg (pe_gi T.gPLAY_Y_BELOW rfl)) (pe_ix ix_tup (pv 0) pe_int (fun _ _ => rfl)) (pe_gi T.gPLAY_Y_ABOVE rfl)))))), ?_⟩
    refine ⟨_, rfl, t, _, 1, _, rfl, rfl, SqT.of ht, at1 _, _, rfl, _, _, rfl, rfl, _, rfl, ite2 (fun c => ?_) (fun c => ?_)⟩
    · have c := of_decide_eq_true c
      have c1 : -2230 ≤ s.x := by omega
      have c2 : s.x ≤ 2230 := by omega
      refine ⟨_, rfl, _, rfl, t, _, 2, _, rfl, rfl, SqT.of ht, at2 _, _, _, rfl, rfl, _, rfl, ite2 (fun d => ?_) (fun d => ?_)⟩
      · have d : -1974 ≤ s.y := of_decide_eq_true d
        refine ⟨_, _, rfl, rfl, bl_of q ?_⟩
        simp [Kg65.Stone.inPlay, Kg65.SIDE, Kg65.UP, Kg65.BEHIND, c1, c2, d]
        rfl
      · have d : ¬ (-1974 ≤ s.y) := fun z => d (decide_eq_true z)
        refine bl_of q ?_
        simp [Kg65.Stone.inPlay, Kg65.SIDE, Kg65.UP, Kg65.BEHIND, d]
    · have c : ¬ ((if s.x < 0 then -s.x else s.x) ≤ 2230) := fun z => c (decide_eq_true z)
      refine bl_of q ?_
      have c3 : -2230 ≤ s.x → ¬ s.x ≤ 2230 := fun _ _ => c (by omega)
      by_cases c1 : -2230 ≤ s.x
      · simp [Kg65.Stone.inPlay, Kg65.SIDE, Kg65.UP, Kg65.BEHIND, c1, c3 c1]
      · simp [Kg65.Stone.inPlay, Kg65.SIDE, Kg65.UP, Kg65.BEHIND, c1]
theorem ok_in_house {f : Addr} {fd : FuncData} (F : Fun K "in_house" "in_house" s_in_house f fd) (T : Txt K mg CM CL AD)
    (D_tee_square : DefOk P w K mg base "tee_square" 1 ["stone"] (spStone fun s => .int s.far)) : FnOk P w K mg base CX0 2 f fd ["stone"] (spStone fun s => .bl s.inHouse) := by
  refine F.ok sc_in_house (fun vs H Q E h => ?_) (fun cdv A outer s H vs Q E hr h => ?_)
  · obtain ⟨n, h, rfl, _⟩ := h
    rfl
  · obtain ⟨t, s, rfl, ht, nr, q⟩ := h
    refine ⟨_, (pss_one (ps_ret (pe_cmpR op_le (pe_callD D_tee_square (by exact hr.mono (by decide)) (by rfl) (pa_cons (pv 0) pa_nil)) (pe_op op_mul (pe_gi T.gHOUSE rfl) (pe_gi T.gHOUSE rfl)) (nomark _)))), ?_⟩
    refine ⟨_, rfl, t, s, rfl, ht, nr, _, _, rfl, rfl, .inl ⟨by decide, by decide⟩, _, _, rfl, rfl, q⟩
theorem ok_is_guard {f : Addr} {fd : FuncData} (F : Fun K "is_guard" "is_guard" s_is_guard f fd) (T : Txt K mg CM CL AD)
    (D_in_house : DefOk P w K mg base "in_house" 2 ["stone"] (spStone fun s => .bl s.inHouse)) : FnOk P w K mg base CX0 3 f fd ["stone"] (spStone fun s => .bl s.guard) := by
  refine F.ok sc_is_guard (fun vs H Q E h => ?_) (fun cdv A outer s H vs Q E hr h => ?_)
  · obtain ⟨n, h, rfl, _⟩ := h
    rfl
  · obtain ⟨t, s, rfl, ht, nr, q⟩ := h
    refine ⟨_, (pss_one (ps_ret (pe_and (pe_cmpR op_gt (pe_ix ix_tup (pv 0) pe_int (fun _ _ => rfl)) pe_int (nomark _)) (pe_one (pe_not (pe_callD D_in_house (by exact hr.mono (by decide)) (by rfl) (pa_cons (pv 0) pa_nil))))))), ?_⟩
    refine ⟨_, rfl, t, _, 2, _, rfl, rfl, SqT.of ht, at2 _, _, _, rfl, rfl, _, rfl, ite2 (fun c => ?_) (fun c => ?_)⟩
    · have c := of_decide_eq_true c
      refine ⟨_, rfl, t, s, rfl, ht, nr, _, rfl, bl_of q ?_⟩
      simp [Kg65.Stone.guard, c]
    · have c : ¬ (0 < s.y) := fun z => c (decide_eq_true z)
      refine bl_of q ?_
      simp [Kg65.Stone.guard, c]
theorem ok_touches {f : Addr} {fd : FuncData} (F : Fun K "touches_middle_line" "touches_middle_line" s_touches_middle_line f fd) (T : Txt K mg CM CL AD) : FnOk P w K mg base CX0 1 f fd ["stone"] (spStone fun s => .bl s.central) := by
  refine F.ok sc_touches_middle_line (fun vs H Q E h => ?_) (fun cdv A outer s H vs Q E hr h => ?_)
  · obtain ⟨n, h, rfl, _⟩ := h
    rfl
  · obtain ⟨t, s, rfl, ht, nr, q⟩ := h
    refine ⟨_, (pss_one (ps_ret (pe_cmpR op_le (pe_callB call_abs (by rfl) T.nabs (by decide +kernel) (pa_cons (pe_ix ix_tup (pv 0) pe_int (fun _ _ => rfl)) pa_nil)) (pe_gi T.gMIDDLE_LINE rfl) (nomark _)))), ?_⟩
    refine ⟨_, rfl, t, _, 1, _, rfl, rfl, SqT.of ht, at1 _, _, rfl, _, _, rfl, rfl, bl_of q ?_⟩
    unfold Kg65.Stone.central
    rw [Bool.eq_iff_iff, Bool.and_eq_true, decide_eq_true_iff, decide_eq_true_iff, decide_eq_true_iff]
    show _ ↔ -145 ≤ s.x ∧ s.x ≤ 145
    omega
theorem ok_lie_clear {f : Addr} {fd : FuncData} (F : Fun K "lie_clear" "lie_clear" s_lie_clear f fd) (T : Txt K mg CM CL AD) : FnOk P w K mg base CX0 1 f fd ["one", "other"] (spTwo fun a b => .bl (Kg65.clear a b)) := by
  refine F.ok sc_lie_clear (fun vs H Q E h => ?_) (fun cdv A outer s H vs Q E hr h => ?_)
  · obtain ⟨t, u, a, b, rfl, _⟩ := h
    rfl
  · obtain ⟨t, u, a, b, rfl, ht, hu, nr, ns, q⟩ := h
    have n1 := nr.x1
    have n2 := nr.x2
    have n3 := nr.y1
    have n4 := nr.y2
    have m1 := ns.x1
    have m2 := ns.x2
    have m3 := ns.y1
    have m4 := ns.y2
    refine ⟨_, (pss_cons (ps_set (i := 2) sc_lie_clear.nd rfl (Or.inl rfl) (pe_op op_sub (pe_ix ix_tup (pv 0) pe_int (fun _ _ => rfl)) (pe_ix ix_tup (pv 1) pe_int (fun _ _ => rfl))))
        (pss_cons (ps_set (i := 3) sc_lie_clear.nd rfl (Or.inl rfl) (pe_op op_sub (pe_ix ix_tup (pv 0) pe_int (fun _ _ => rfl)) (pe_ix ix_tup (pv 1) pe_int (fun _ _ => rfl))))
        (pss_one (ps_ret (pe_cmpR op_ge (pe_op op_add (pe_op op_mul (pv 2) (pv 2)) (pe_op op_mul (pv 3) (pv 3))) (pe_op op_mul (pe_gi T.gCLEAR rfl) (pe_gi T.gCLEAR rfl)) (nomark _)))))), ?_⟩
    refine ⟨_, rfl, t, _, 1, _, rfl, rfl, SqT.of ht, at1 _, _, rfl, u, _, 1, _, rfl, rfl, SqT.of hu, at1 _, _, _, rfl, rfl, _, rfl, t, _, 2, _, rfl, rfl, SqT.of ht, at2 _, _, rfl, u, _, 2, _, rfl, rfl, SqT.of hu, at2 _, _, _, rfl, rfl, ?_⟩
    refine ⟨_, rfl, _, rfl, _, _, rfl, rfl, .inl ⟨by omega, by omega⟩, _, rfl, _, rfl, _, _, rfl, rfl, .inl ⟨by omega, by omega⟩, _, _, rfl, rfl, _, _, rfl, rfl, .inl ⟨by decide, by decide⟩, _, _, rfl, rfl, q⟩
theorem ok_is_side {f : Addr} {fd : FuncData} (F : Fun K "is_side" "is_side" s_is_side f fd) : FnOk P w K mg base CX0 1 f fd ["number"] spIsSide := by
  refine F.ok sc_is_side (fun vs H Q E h => ?_) (fun cdv A outer s H vs Q E hr h => ?_)
  · obtain ⟨n, rfl, _⟩ := h
    rfl
  · obtain ⟨n, rfl, q⟩ := h
    refine ⟨_, (pss_one (ps_ret (pe_or (pe_cmpR op_eq (pv 0) pe_int (nomark _)) (pe_one (pe_cmpR op_eq (pv 0) pe_int (nomark _)))))), ?_⟩
    refine ⟨_, rfl, rfl, _, rfl, ite2 (fun c => ?_) (fun c => ?_)⟩
    · have c := V.int.inj (of_decide_eq_true c)
      refine bl_of q ?_
      simp [Kg65.within, c]
    · have c : ¬ n = 0 := fun z => c (decide_eq_true (congrArg V.int z))
      refine ⟨_, rfl, rfl, bl_of q ?_⟩
      rw [Bool.eq_iff_iff]
      simp [Kg65.within]
      omega
theorem ok_is_guard_moved {f : Addr} {fd : FuncData} (F : Fun K "is_guard_moved" "is_guard_moved" s_is_guard_moved f fd) (T : Txt K mg CM CL AD)
    (D_is_guard : DefOk P w K mg base "is_guard" 3 ["stone"] (spStone fun s => .bl s.guard))
    (D_touches_middle_line : DefOk P w K mg base "touches_middle_line" 1 ["stone"] (spStone fun s => .bl s.central)) : FnOk P w K mg base CX0 4 f fd ["before", "after"] spMoved := by
  refine F.ok sc_is_guard_moved (fun vs H Q E h => ?_) (fun cdv A outer s H vs Q E hr h => ?_)
  · obtain ⟨t, a, v, o, rfl, _⟩ := h
    rfl
  · obtain ⟨t, a, v, o, rfl, ht, nr, hv, q⟩ := h
    refine ⟨_, (pss_cons (ps_if (pt_not (pt_val (pe_callD D_is_guard (by exact hr.mono (by decide)) (by rfl) (pa_cons (pv 0) pa_nil))))
          (pss_one (ps_ret pe_bl))
          pss_nil)
        (pss_cons (ps_if (pt_cmpR op_isN (pv 1) pe_non (nomark _))
          (pss_one (ps_ret pe_bl))
          pss_nil)
        (pss_one (ps_ret (pe_and (pe_callD D_touches_middle_line (by exact hr.mono (by decide)) (by rfl) (pa_cons (pv 0) pa_nil)) (pe_one (pe_not (pe_callD D_touches_middle_line (by exact hr.mono (by decide)) (by rfl) (pa_cons (pv 1) pa_nil))))))))), ?_⟩
    refine ⟨_, rfl, t, a, rfl, ht, nr, _, rfl, ?_⟩
    cases hg : a.guard with
    | false =>
      refine iteT ?_
      refine bl_of q ?_
      simp [moved, hg]
    | true =>
      refine iteF ?_
      refine ⟨_, rfl, rfl, _, rfl, ?_⟩
      rcases hv with ⟨rfl, rfl⟩ | ⟨u, b, rfl, rfl, hu, nb⟩
      · refine ite2 (fun _ => ?_) (fun c => absurd (decide_eq_true rfl) c)
        refine bl_of q ?_
        simp [moved, hg]
      · refine ite2 (fun c => ?_) (fun _ => ?_)
        · have c := of_decide_eq_true c
          cases c
        · refine ⟨_, rfl, t, a, rfl, ht, nr, _, rfl, ?_⟩
          cases hc : a.central with
          | true =>
            refine iteT ?_
            refine ⟨_, rfl, u, b, rfl, hu, nb, _, rfl, bl_of q ?_⟩
            simp [moved, hg, hc]
          | false =>
            refine iteF ?_
            refine bl_of q ?_
            simp [moved, hg, hc]
end
end Cm

namespace Cm
open PySem PySem.Spec PyProof.Rows L2
/-! ### walks that leave the heap alone -/
theorem same_upd {H : Hp} {p : Addr} {o : HO} (h : H p = none) : Same H (upd H p o) := fun b x e => by
  rw [upd_ne (ne_of_none e h)]
  exact e
theorem take_more {α : Type} {l : List α} {i : Nat} {x : α} (h : l[i]? = some x) : l.take (i + 1) = l.take i ++ [x] := by
  rw [List.take_add_one, h]
  rfl
theorem lc_pure {α : Type} {K : PySem.W.Frag} {a : Addr} {g : TG} {tt : TT} {te : TE} {vs : List Nat} {σ : L2.St} {H1 : Hp} {D : Addr} {Qd : Hp → Prop}
    (ys : List α) (f : α → V) (keep : α → Bool) (val : α → V) (hx : SqL K H1 a (ys.map f)) (hD : H1 D = none) (hz : ys.length < sizeLine)
    (hs : ∀ y H (R : V → Hp → Prop) (N : Hp → Prop), y ∈ ys → Same H1 H → (keep y = true → R (val y) H) → (keep y = false → N H) →
      g (f y) (wipe σ vs) H fun σ2 H2 => wipe σ2 vs = wipe σ vs ∧ tt σ2 H2 fun b H3 => if b = true then te σ2 H3 R else N H3)
    (hd : Qd (upd H1 D (.lst ((ys.filter keep).map val)))) :
    ∃ W : Nat → Nat → Hp → Prop, (∃ m, W 0 m (upd H1 D (.lst []))) ∧ ∀ i m H, W i m H →
      ((Itl K a).stop i H ∧ Qd H) ∨ ((Itl K a).go i H ∧ ∃ Nx : Hp → Prop, (∀ H', Nx H' → ∃ m', m' < m ∧ W (i + 1) m' H') ∧ ∀ x H', (Itl K a).yld i H x H' →
        g x (wipe σ vs) H' fun σ2 H2 => wipe σ2 vs = wipe σ vs ∧ tt σ2 H2 fun b H3 =>
        if b = true then te σ2 H3 fun y H4 => ∃ acc, H4 D = some (.lst acc) ∧ acc.length < sizeLine ∧ Nx (upd H4 D (.lst (acc ++ [y]))) else Nx H3) := by
  have sm : ∀ zs, Same H1 (upd H1 D (.lst zs)) := fun zs => same_upd hD
  refine lc_list (K := K) (a := a) (xs := ys.map f) (fun i H => H = upd H1 D (.lst (((ys.take i).filter keep).map val))) rfl (fun i H _ e => e ▸ (sm _).seq hx) (fun i x H hi e => ?_) (fun H e => ?_)
  · subst e
    rw [List.getElem?_map] at hi
    obtain ⟨y, hy, rfl⟩ : ∃ y, ys[i]? = some y ∧ x = f y := by
      cases e : ys[i]? with
      | none =>
        rw [e] at hi
        cases hi
      | some y =>
        rw [e] at hi
        exact ⟨y, rfl, (Option.some.inj hi).symm⟩
    have hm : y ∈ ys := List.mem_of_getElem? hy
    have st := take_more hy
    refine hs y _ _ _ hm (sm _) (fun hk => ⟨_, upd_same, ?_, ?_⟩) (fun hk => ?_)
    · refine Nat.lt_of_le_of_lt ?_ hz
      rw [List.length_map]
      refine Nat.le_trans (List.length_filter_le _ _) ?_
      rw [List.length_take]
      exact Nat.min_le_right _ _
    · rw [upd_upd, st, List.filter_append, List.map_append]
      simp [hk]
    · rw [st, List.filter_append]
      simp [hk]
  · subst e
    rw [List.length_map, List.take_length]
    exact hd
/-! ### lists of stones -/
structure StonesAt (H : Hp) (l : Addr) (ps : List (Addr × Stone)) : Prop where
  lst : H l = some (.lst (ps.map fun p => V.ref p.1))
  tup : ∀ p ∈ ps, H p.1 = some (.tup (sv p.2))
theorem StonesAt.same {H H' : Hp} {l : Addr} {ps : List (Addr × Stone)} (s : Same H H') (h : StonesAt H l ps) : StonesAt H' l ps :=
  ⟨s _ _ h.lst, fun p hp => s _ _ (h.tup p hp)⟩
def Nears (ps : List (Addr × Stone)) : Prop := ∀ p ∈ ps, Near p.2
theorem clear_comm (a b : Stone) : Kg65.clear a b = Kg65.clear b a := by
  have e : ∀ x y : Int, Kg65.sq (x - y) = Kg65.sq (y - x) := fun x y => by
    show (x - y) * (x - y) = (y - x) * (y - x)
    rw [← Int.neg_sub y x, Int.neg_mul_neg]
  unfold Kg65.clear
  rw [e a.x b.x, e a.y b.y]
theorem allClear_iff : ∀ l : List Stone, Kg65.allClear l = true ↔ l.Pairwise (fun a b => Kg65.clear a b = true)
  | [] => ⟨fun _ => .nil, fun _ => rfl⟩
  | s :: l => by
    unfold Kg65.allClear
    rw [Bool.and_eq_true, List.all_eq_true, allClear_iff l, List.pairwise_cons]
theorem allClear_at {l : List Stone} (h : ∀ (i j : Nat) (a b : Stone), j < i → l[i]? = some a → l[j]? = some b → Kg65.clear a b = true) : Kg65.allClear l = true := by
  rw [allClear_iff, List.pairwise_iff_getElem]
  intro i j hi hj hij
  rw [clear_comm]
  exact h j i _ _ hij (List.getElem?_eq_getElem hj) (List.getElem?_eq_getElem hi)
theorem allClear_no {l : List Stone} {i j : Nat} {a b : Stone} (hij : j < i) (ha : l[i]? = some a) (hb : l[j]? = some b) (hc : Kg65.clear a b = false) : Kg65.allClear l = false := by
  cases hq : Kg65.allClear l with
  | false => rfl
  | true =>
    rw [allClear_iff, List.pairwise_iff_getElem] at hq
    obtain ⟨hi, rfl⟩ := List.getElem?_eq_some_iff.mp ha
    obtain ⟨hj, rfl⟩ := List.getElem?_eq_some_iff.mp hb
    have z := hq j i hj hi hij
    rw [clear_comm, hc] at z
    cases z
theorem cut_to (xs : List V) (i : Nat) (hi : i ≤ xs.length) : cutV xs none (some (i : Int)) = xs.take i := by
  unfold cutV
  rw [HT.sIx_none, HT.sIx_nat, Nat.min_eq_left hi]
  rfl
theorem map_at {α : Type} {f : α → V} {ys : List α} {i : Nat} {x : V} (h : (ys.map f)[i]? = some x) : ∃ y, ys[i]? = some y ∧ x = f y := by
  rw [List.getElem?_map] at h
  cases e : ys[i]? with
  | none =>
    rw [e] at h
    cases h
  | some y =>
    rw [e] at h
    exact ⟨y, rfl, (Option.some.inj h).symm⟩
end Cm

namespace Cm
open PySem PySem.Spec PyProof.Rows L2
abbrev Game := Kg65.Game
def spAllClear : Sp := fun vs H Q _ => ∃ (l : Addr) (ps : List (Addr × Stone)), vs = [.ref l] ∧ StonesAt H l ps ∧ Nears ps ∧ ps.length ≤ 20 ∧
  ∀ H', Same H H' → Q (.bl (Kg65.allClear (ps.map (·.2)))) H'
/-- the squares of one side's stones in the house -/
def houseL (g : Game) (side : Nat) : List Int := (g.stones.filter fun s => g.sideOf s.number == side && s.inHouse).map Kg65.Stone.far
theorem sideZ_is (g : Game) (n : Nat) (h : g.hammer ≤ 1) : sideZ n g.hammer = (g.sideOf n : Nat) := by
  unfold sideZ Kg65.Game.sideOf
  have e : ((n : Int).fmod 2) = ((n % 2 : Nat) : Int) := by
    rw [Int.fmod_eq_emod_of_nonneg _ (by decide)]
    rfl
  rw [e]
  by_cases c : n % 2 = 1
  · rw [if_pos c, if_pos (by omega)]
  · rw [if_neg c, if_neg (by omega)]
    omega
def spHouse : Sp := fun vs H Q _ => ∃ (l : Addr) (ps : List (Addr × Stone)) (g : Game) (side : Nat), vs = [.ref l, .int g.hammer, .int side] ∧ StonesAt H l ps ∧ Nears ps ∧ ps.length ≤ 20 ∧
  ps.map (·.2) = g.stones ∧ g.hammer ≤ 1 ∧ ∀ (H' : Hp) (p : Addr) (ns : List Int), Same H H' → H p = none → H' p = some (.lst (ns.map V.int)) → ns.Perm (houseL g side) → ns.Pairwise (· ≤ ·) → Q (.ref p) H'
def nearer (xs ys : List Int) : Nat := match ys with
  | [] => xs.length
  | y :: _ => (xs.filter fun x => decide (x < y)).length
def spNearer (K : PySem.W.Frag) : Sp := fun vs H Q _ => ∃ (a b : Addr) (xs ys : List Int), vs = [.ref a, .ref b] ∧ SqL K H a (xs.map V.int) ∧ SqL K H b (ys.map V.int) ∧ xs.length ≤ 20 ∧
  ∀ H', Same H H' → Q (.int (nearer xs ys : Nat)) H'
section
variable {P : Program} {w : World} {K : PySem.W.Frag} {mg : Str → Option Value} {base : Heap} {CM CL AD : Addr}
theorem ok_all_lie_clear {f : Addr} {fd : FuncData} (F : Fun K "all_lie_clear" "all_lie_clear" s_all_lie_clear f fd) (T : Txt K mg CM CL AD)
    (D_lie_clear : DefOk P w K mg base "lie_clear" 1 ["one", "other"] (spTwo fun a b => .bl (Kg65.clear a b))) : FnOk P w K mg base CX0 2 f fd ["stones"] spAllClear := by
  refine F.ok sc_all_lie_clear (fun vs H Q E h => ?_) (fun cdv A outer s H vs Q E hr h => ?_)
  · obtain ⟨l, ps, rfl, _⟩ := h
    rfl
  · obtain ⟨l, ps, rfl, hS, nr, hz, q⟩ := h
    refine ⟨_, (pss_cons (ps_for PassesOwn.never rfl (pi_enum (by rfl) T.nenumerate (pa_cons (pv 0) pa_nil)) (pg_tup (by rfl) (pgs_cons (pg_name (i := 1) sc_all_lie_clear.nd rfl (Or.inl rfl)) (pgs_cons (pg_name (i := 2) sc_all_lie_clear.nd rfl (Or.inl rfl)) pgs_nil)))
          (pss_one (ps_for PassesOwn.never rfl (pi_list (pe_slice sl_list (pv 0) po_none (po_some (pv 1)))) (pg_name (i := 3) sc_all_lie_clear.nd rfl (Or.inl rfl))
            (pss_one (ps_if (pt_not (pt_val (pe_callD D_lie_clear (by exact hr.mono (by decide)) (by rfl) (pa_cons (pv 2) (pa_cons (pv 3) pa_nil)))))
              (pss_one (ps_ret pe_bl))
              pss_nil)))))
        (pss_one (ps_ret pe_bl))), ?_⟩
    refine ⟨_, rfl, l, _, rfl, SqL.of hS.lst, for_it walk_enum (fun i σ H' => ∃ v1 v2 v3, σ = [some (.ref l), v1, v2, v3] ∧ Same H H' ∧
      ∀ (i' j' : Nat) (a b : Stone), i' < i → j' < i' → (ps.map (·.2))[i']? = some a → (ps.map (·.2))[j']? = some b → Kg65.clear a b = true)
      ⟨none, none, none, rfl, Same.refl H, fun i' _ _ _ h => absurd h (Nat.not_lt_zero _)⟩ (fun i σ H' _ ⟨_, _, _, _, s1, _⟩ => s1.seq (SqL.of hS.lst)) ?_ ?_⟩
    · rintro i x σ H1 H1' hi ⟨v1, v2, v3, rfl, s1, hc⟩ ⟨tp, y, z, rfl, ntp, rfl, hy, hz'⟩
      obtain rfl := Option.some.inj hy
      obtain ⟨p, hp, rfl⟩ := map_at hz'
      have sT : Same H1 (upd H1 tp (.tup [.int (i : Nat), .ref p.1])) := same_upd ntp
      refine ⟨tp, _, rfl, SqT.of upd_same, rfl, _, _, rfl, _, _, rfl, rfl, ?_⟩
      refine ⟨_, rfl, _, rfl, _, rfl, l, _, rfl, (sT.seq (s1.seq (SqL.of hS.lst))), fun c nc => ?_⟩
      have sC : Same (upd H1 tp (.tup [.int (i : Nat), .ref p.1])) _ := same_upd (o := .lst (cutV (ps.map fun p => V.ref p.1) none (some (i : Int)))) nc
      have s2 : Same H _ := (s1.trans sT).trans sC
      have lp : i < ps.length := (List.getElem?_eq_some_iff.mp hp).1
      have ec : cutV (ps.map fun p => V.ref p.1) none (some (i : Int)) = (ps.take i).map fun p => V.ref p.1 := by
        rw [cut_to _ _ (by rw [List.length_map]; omega), List.map_take]
      rw [ec] at s2 ⊢
      have hu : (upd (upd H1 tp (.tup [.int (i : Nat), .ref p.1])) c (.lst ((ps.take i).map fun p => V.ref p.1))) c = some (.lst ((ps.take i).map fun p => V.ref p.1)) := upd_same
      generalize (upd (upd H1 tp (.tup [.int (i : Nat), .ref p.1])) c (.lst ((ps.take i).map fun p => V.ref p.1))) = H2 at s2 hu ⊢
      refine ⟨c, rfl, ⟨_, SqL.of hu⟩, for_list (fun j σ H' => ∃ v3, σ = [some (.ref l), some (.int (i : Nat)), some (.ref p.1), v3] ∧ H' = H2 ∧
        ∀ (j' : Nat) (b : Stone), j' < j → (ps.map (·.2))[j']? = some b → Kg65.clear p.2 b = true) ⟨v3, rfl, rfl, fun _ _ h => absurd h (Nat.not_lt_zero _)⟩ (fun j σ H' _ ⟨_, _, e, _⟩ => e ▸ SqL.of hu) ?_ ?_⟩
      · rintro j x σ H3 hj ⟨v3, rfl, rfl, hc2⟩
        obtain ⟨o, ho, rfl⟩ := map_at hj
        have lj : j < i := by
          have := (List.getElem?_eq_some_iff.mp ho).1
          rw [List.length_take] at this
          omega
        rw [List.getElem?_take, if_pos lj] at ho
        have mp := List.mem_of_getElem? hp
        have mo := List.mem_of_getElem? ho
        have eo : (ps.map (·.2))[j]? = some o.2 := by rw [List.getElem?_map, ho]; rfl
        have ep : (ps.map (·.2))[i]? = some p.2 := by rw [List.getElem?_map, hp]; rfl
        refine ⟨_, rfl, _, rfl, p.1, o.1, p.2, o.2, rfl, s2 _ _ (hS.tup p mp), s2 _ _ (hS.tup o mo), nr p mp, nr o mo, _, rfl, ?_⟩
        cases hcl : Kg65.clear p.2 o.2 with
        | false =>
          refine iteT ?_
          refine bl_of (q H3 s2) ?_
          exact (allClear_no lj ep eo hcl).symm
        | true =>
          refine iteF ?_
          refine ⟨_, rfl, rfl, fun j' b hj' hb => ?_⟩
          by_cases e : j' = j
          · subst e
            rw [eo] at hb
            cases hb
            exact hcl
          · exact hc2 j' b (by omega) hb
      · rintro σ H3 ⟨v3, rfl, rfl, hc2⟩
        refine ⟨_, _, _, rfl, s2, fun i' j' a b hi' hj' ha hb => ?_⟩
        by_cases e : i' = i
        · subst e
          have ep : (ps.map (·.2))[i']? = some p.2 := by rw [List.getElem?_map, hp]; rfl
          rw [ep] at ha
          cases ha
          refine hc2 j' b ?_ hb
          rw [List.length_map, List.length_take]
          omega
        · exact hc i' j' a b (by omega) hj' ha hb
    · rintro σ H1 ⟨v1, v2, v3, rfl, s1, hc⟩
      refine bl_of (q H1 s1) ?_
      refine (allClear_at fun i j a b hij ha hb => hc i j a b ?_ hij ha hb).symm
      rw [List.length_map]
      have := (List.getElem?_eq_some_iff.mp ha).1
      rw [List.length_map] at this
      exact this
theorem ok_house_squares {f : Addr} {fd : FuncData} (F : Fun K "house_squares" "house_squares" s_house_squares f fd) (T : Txt K mg CM CL AD)
    (D_side_of : DefOk P w K mg base "side_of" 1 ["number", "hammer"] spSide)
    (D_tee_square : DefOk P w K mg base "tee_square" 1 ["stone"] (spStone fun s => .int s.far))
    (D_in_house : DefOk P w K mg base "in_house" 2 ["stone"] (spStone fun s => .bl s.inHouse)) : FnOk P w K mg base CX0 3 f fd ["stones", "hammer", "side"] spHouse := by
  refine F.ok sc_house_squares (fun vs H Q E h => ?_) (fun cdv A outer s H vs Q E hr h => ?_)
  · obtain ⟨l, ps, g, side, rfl, _⟩ := h
    rfl
  · obtain ⟨l, ps, g, side, rfl, hS, nr, hz, eg, hh, q⟩ := h
    refine ⟨_, (pss_one (ps_ret (pe_callB cr_sortedI (by rfl) T.nsorted (by decide +kernel) (pa_cons (pe_lc (own := [("stone", 3)]) (g := gName 3) (by rfl) sc_house_squares.nd (pi_list (pv 0)) (blkOk_by (N := N_house_squares) (sc := defScope s_house_squares) (by decide +kernel)) (fun _ _ _ _ _ => pg_name (i := 3) sc_house_squares.nd rfl (Or.inl rfl)) (fun _ _ _ _ _ => (pts_one (PW.pt (pw_and (pt_val (pe_callD D_in_house (by exact hr.mono (by decide)) (by rfl) (pa_cons (pv 3) pa_nil))) (pw_and1 (pt_cmpR op_eq (pe_callD D_side_of (by exact hr.mono (by decide)) (by rfl) (pa_cons (pe_ix (r := rIxT K) ix_tup (pv 3) pe_int (fun _ _ => rfl)) (pa_cons (pv 1) pa_nil))) (pv 2) (nomark _))))))) (fun _ _ _ _ _ => (pe_callD D_tee_square (by exact hr.mono (by decide)) (by rfl) (pa_cons (pv 3) pa_nil)))) pa_nil)))), ?_⟩
    refine ⟨_, rfl, l, rfl, ⟨_, SqL.of hS.lst⟩, fun D hD => lc_pure ps (fun p => V.ref p.1) (fun p => p.2.inHouse && g.sideOf p.2.number == side) (fun p => .int p.2.far) (SqL.of hS.lst) hD ?_ ?_ ?_⟩
    · exact Nat.lt_of_le_of_lt hz (by decide)
    · intro p H1 R N hp s1 hR hN
      have ht := s1 _ _ (hS.tup p hp)
      refine ⟨rfl, ?_⟩
      refine ⟨_, rfl, p.1, p.2, rfl, ht, nr p hp, _, rfl, ?_⟩
      cases hb : p.2.inHouse with
      | false =>
        refine iteF ?_
        refine iteF ?_
        exact hN (by rw [hb]; rfl)
      | true =>
        refine iteT ?_
        refine ⟨_, rfl, p.1, _, 0, _, rfl, rfl, SqT.of ht, at0 _, _, rfl, _, _, rfl, _, rfl, rfl, _, rfl, ?_⟩
        rw [sideZ_is g _ hh]
        refine ite2 (fun c => ?_) (fun c => ?_)
        · have c := Int.ofNat.inj (V.int.inj (of_decide_eq_true c))
          refine ⟨_, rfl, p.1, p.2, rfl, ht, nr p hp, hR ?_⟩
          rw [hb, c]
          exact beq_self_eq_true side
        · refine hN ?_
          rw [hb, Bool.true_and]
          refine beq_eq_false_iff_ne.mpr fun z => c ?_
          rw [z]
          exact decide_eq_true rfl
    · refine ⟨D, (ps.filter fun p => p.2.inHouse && g.sideOf p.2.number == side).map fun p => p.2.far, rfl, SqL.of ?_, fun ns' p perm srt hp => ?_⟩
      · rw [List.map_map]
        exact upd_same
      · refine q _ p ns' ((same_upd hD).trans (same_upd hp)) ((same_upd hD).free hp) upd_same ?_ srt
        refine perm.trans (List.Perm.of_eq ?_)
        unfold houseL
        rw [← eg, List.filter_map, List.map_map]
        refine congrArg _ (List.filter_congr fun x _ => ?_)
        exact Bool.and_comm _ _
theorem ok_count_nearer {f : Addr} {fd : FuncData} (F : Fun K "count_nearer" "count_nearer" s_count_nearer f fd) (T : Txt K mg CM CL AD) : FnOk P w K mg base CX0 1 f fd ["own", "others"] (spNearer K) := by
  refine F.ok sc_count_nearer (fun vs H Q E h => ?_) (fun cdv A outer s H vs Q E hr h => ?_)
  · obtain ⟨a, b, xs, ys, rfl, _⟩ := h
    rfl
  · obtain ⟨a, b, xs, ys, rfl, ha, hb, hz, q⟩ := h
    refine ⟨_, (pss_cons (ps_if (pt_not (pt_truth (pv 1) (by intro _; rfl)))
          (pss_one (ps_ret (pe_callB call_len_seq (by rfl) T.nlen PySem.boot_len (pa_cons (pv 0) pa_nil))))
          pss_nil)
        (pss_one (ps_ret (pe_callB call_len_seq (by rfl) T.nlen PySem.boot_len (pa_cons (pe_lc (own := [("square", 2)]) (g := gName 2) (by rfl) sc_count_nearer.nd (pi_list (pv 0)) (blkOk_by (N := N_count_nearer) (sc := defScope s_count_nearer) (by decide +kernel)) (fun _ _ _ _ _ => pg_name (i := 2) sc_count_nearer.nd rfl (Or.inl rfl)) (fun _ _ _ _ _ => (pts_one (pt_cmpR op_lt (pv 2) (pe_ix (r := rIxL K) ix_list (pv 1) pe_int (fun _ _ => rfl)) (nomark _)))) (fun _ _ _ _ _ => (pv 2))) pa_nil))))), ?_⟩
    refine ⟨.ref b, rfl, !(ys.map V.int).isEmpty, .inl ⟨_, hb, rfl⟩, ?_⟩
    cases ys with
    | nil =>
      refine iteT ?_
      refine ⟨_, rfl, a, _, rfl, .inl ha, int_of (q H (Same.refl H)) ?_⟩
      rw [List.length_map]
      rfl
    | cons y ys =>
      refine iteF ?_
      refine ⟨_, rfl, a, rfl, ⟨_, ha⟩, fun D hD => lc_pure xs V.int (fun x => decide (x < y)) V.int ha hD ?_ ?_ ?_⟩
      · exact Nat.lt_of_le_of_lt hz (by decide)
      · intro x H1 R N hx s1 hR hN
        refine ⟨rfl, _, rfl, _, rfl, b, _, 0, _, rfl, rfl, s1.seq hb, atI_nat (j := 0) rfl, _, _, rfl, rfl, _, rfl, ite2 (fun c => ?_) (fun c => ?_)⟩
        · exact ⟨_, rfl, hR c⟩
        · exact hN (by simpa using c)
      · refine ⟨D, _, rfl, .inl (SqL.of upd_same), int_of (q _ (same_upd hD)) ?_⟩
        rw [List.length_map]
        rfl
/-! ### what an end counts -/
theorem least_fold : ∀ (l : List Int) (m : Int), ∃ r, l.foldl (fun (m : Option Int) d => match m with
    | none => some d
    | some n => some (min n d)) (some m) = some r ∧ r ∈ m :: l ∧ ∀ x ∈ m :: l, r ≤ x
  | [], m => ⟨m, rfl, List.mem_singleton.mpr rfl, fun x hx => by rw [List.mem_singleton.mp hx]; exact Int.le_refl _⟩
  | d :: l, m => by
    obtain ⟨r, e, hm, hl⟩ := least_fold l (min m d)
    refine ⟨r, e, ?_, fun x hx => ?_⟩
    · rcases List.mem_cons.mp hm with rfl | hm
      · by_cases c : m ≤ d
        · rw [Int.min_eq_left c]
          exact List.mem_cons_self
        · rw [Int.min_eq_right (by omega)]
          exact List.mem_cons_of_mem _ List.mem_cons_self
      · exact List.mem_cons_of_mem _ (List.mem_cons_of_mem _ hm)
    · have h0 := hl (min m d) List.mem_cons_self
      rcases List.mem_cons.mp hx with rfl | hx
      · omega
      · rcases List.mem_cons.mp hx with rfl | hx
        · omega
        · exact hl x (List.mem_cons_of_mem _ hx)
theorem nearest_is (g : Game) (side : Nat) (ns : List Int) (hp : ns.Perm (houseL g side)) (hs : ns.Pairwise (· ≤ ·)) : g.nearest side = ns.head? := by
  show (houseL g side).foldl _ none = _
  cases ns with
  | nil =>
    rw [List.nil_perm.mp hp]
    rfl
  | cons y ns =>
    cases hl : houseL g side with
    | nil =>
      rw [hl] at hp
      exact absurd (List.perm_nil.mp hp) (List.cons_ne_nil _ _)
    | cons d l =>
      obtain ⟨r, e, hm, hle⟩ := least_fold l d
      rw [hl] at hp
      have e2 : r = y := by
        have h1 := hle y (hp.mem_iff.mp List.mem_cons_self)
        rcases List.mem_cons.mp (hp.mem_iff.mpr hm) with rfl | hr
        · rfl
        · have h2 := (List.pairwise_cons.mp hs).1 r hr
          omega
      rw [← e2]
      exact e
theorem counts_is (g : Game) (side : Nat) (xs ys : List Int) (hx : xs.Perm (houseL g side)) (hy : ys.Perm (houseL g (1 - side))) (hs : ys.Pairwise (· ≤ ·)) : nearer xs ys = g.counts side := by
  unfold Kg65.Game.counts
  rw [nearest_is g (1 - side) ys hy hs]
  unfold nearer
  cases ys with
  | nil =>
    show xs.length = _
    rw [hx.length_eq]
    unfold houseL
    rw [List.length_map]
    refine congrArg List.length (List.filter_congr fun s _ => ?_)
    simp
  | cons y ys =>
    show (xs.filter fun x => decide (x < y)).length = _
    rw [(hx.filter _).length_eq]
    unfold houseL
    rw [List.filter_map, List.length_map, List.filter_filter]
    refine congrArg List.length (List.filter_congr fun s _ => ?_)
    show (decide (s.far < y) && (g.sideOf s.number == side && s.inHouse)) = (g.sideOf s.number == side && (s.inHouse && decide (s.far < y)))
    rw [Bool.and_comm, Bool.and_assoc]
def spEnd : Sp := fun vs H Q _ => ∃ (l : Addr) (ps : List (Addr × Stone)) (g : Game), vs = [.ref l, .int g.hammer] ∧ StonesAt H l ps ∧ Nears ps ∧ ps.length ≤ 20 ∧
  ps.map (·.2) = g.stones ∧ g.hammer ≤ 1 ∧ ∀ (H' : Hp) (p : Addr), Same H H' → H p = none → H' p = some (.tup [.int (g.counts 0 : Nat), .int (g.counts 1 : Nat)]) → Q (.ref p) H'
theorem house_len {g : Game} {ps : List (Addr × Stone)} {side : Nat} {ns : List Int} (hz : ps.length ≤ 20) (eg : ps.map (·.2) = g.stones) (hp : ns.Perm (houseL g side)) : ns.length ≤ 20 := by
  rw [hp.length_eq]
  unfold houseL
  rw [List.length_map]
  refine Nat.le_trans (List.length_filter_le _ _) ?_
  rw [← eg, List.length_map]
  exact hz
theorem ok_end_points {f : Addr} {fd : FuncData} (F : Fun K "end_points" "end_points" s_end_points f fd)
    (D_house_squares : DefOk P w K mg base "house_squares" 3 ["stones", "hammer", "side"] spHouse)
    (D_count_nearer : DefOk P w K mg base "count_nearer" 1 ["own", "others"] (spNearer K)) : FnOk P w K mg base CX0 4 f fd ["stones", "hammer"] spEnd := by
  refine F.ok sc_end_points (fun vs H Q E h => ?_) (fun cdv A outer s H vs Q E hr h => ?_)
  · obtain ⟨l, ps, g, rfl, _⟩ := h
    rfl
  · obtain ⟨l, ps, g, rfl, hS, nr, hz, eg, hh, q⟩ := h
    refine ⟨_, (pss_cons (ps_set (i := 2) sc_end_points.nd rfl (Or.inl rfl) (pe_lst (pa_cons (pe_callD D_house_squares (by exact hr.mono (by decide)) (by rfl) (pa_cons (pv 0) (pa_cons (pv 1) (pa_cons pe_int pa_nil)))) (pa_cons (pe_callD D_house_squares (by exact hr.mono (by decide)) (by rfl) (pa_cons (pv 0) (pa_cons (pv 1) (pa_cons pe_int pa_nil)))) pa_nil))))
        (pss_one (ps_ret (pe_tup (pa_cons (pe_callD D_count_nearer (by exact hr.mono (by decide)) (by rfl) (pa_cons (pe_ix (r := rIxL K) ix_list (pv 2) pe_int (fun _ _ => rfl)) (pa_cons (pe_ix (r := rIxL K) ix_list (pv 2) pe_int (fun _ _ => rfl)) pa_nil))) (pa_cons (pe_callD D_count_nearer (by exact hr.mono (by decide)) (by rfl) (pa_cons (pe_ix (r := rIxL K) ix_list (pv 2) pe_int (fun _ _ => rfl)) (pa_cons (pe_ix (r := rIxL K) ix_list (pv 2) pe_int (fun _ _ => rfl)) pa_nil))) pa_nil)))))), ?_⟩
    refine ⟨_, rfl, _, rfl, l, ps, g, 0, rfl, hS, nr, hz, eg, hh, fun H1 p1 ns1 s1 n1 e1 perm1 srt1 => ?_⟩
    refine ⟨_, rfl, _, rfl, l, ps, g, 1, rfl, hS.same s1, nr, hz, eg, hh, fun H2 p2 ns2 s2 n2 e2 perm2 srt2 => ?_⟩
    refine ⟨(by show 2 ≤ sizeLine; decide), fun c nc => ?_⟩
    have e1' := s2 _ _ e1
    have s3 : Same H2 (upd H2 c (.lst [.ref p1, .ref p2])) := same_upd nc
    refine ⟨_, rfl, c, _, 0, _, rfl, rfl, SqL.of upd_same, atI_nat (j := 0) rfl, _, rfl, c, _, 1, _, rfl, rfl, SqL.of upd_same, atI_nat (j := 1) rfl,
      p1, p2, ns1, ns2, rfl, SqL.of (s3 _ _ e1'), SqL.of (s3 _ _ e2), house_len hz eg perm1, fun H4 s4 => ?_⟩
    refine ⟨_, rfl, c, _, 1, _, rfl, rfl, SqL.of (s4 _ _ upd_same), atI_nat (j := 1) rfl, _, rfl, c, _, 0, _, rfl, rfl, SqL.of (s4 _ _ upd_same), atI_nat (j := 0) rfl,
      p2, p1, ns2, ns1, rfl, SqL.of (s4 _ _ (s3 _ _ e2)), SqL.of (s4 _ _ (s3 _ _ e1')), house_len hz eg perm2, fun H5 s5 => ?_⟩
    refine ⟨(by show 2 ≤ sizeLine; decide), fun p np => ?_⟩
    rw [counts_is g 0 ns1 ns2 perm1 perm2 srt2, counts_is g 1 ns2 ns1 perm2 perm1 srt1]
    have sA : Same H H5 := (((s1.trans s2).trans s3).trans s4).trans s5
    exact q _ p (sA.trans (same_upd np)) (sA.free np) upd_same
end
end Cm

namespace Cm
open PySem PySem.Spec PyProof.Rows L2
/-! ### the match in the heap -/
theorem lk_here {k : Str} {v : V} {r : List (Str × V)} : List.lookup k ((k, v) :: r) = some v := by
  have e : (k == k) = true := beq_self_eq_true k
  simp only [List.lookup, e]
theorem lk_past {k g : Str} {v : V} {r : List (Str × V)} (h : (k == g) = false) : List.lookup k ((g, v) :: r) = List.lookup k r := by
  simp only [List.lookup, h]
theorem put_here {f : Str} {v x : V} {r : List (Str × V)} : putF f v ((f, x) :: r) = (f, v) :: r := if_pos rfl
theorem put_past {f g : Str} {v x : V} {r : List (Str × V)} (h : ¬ g = f) : putF f v ((g, x) :: r) = (g, x) :: putF f v r := if_neg h
/-- the fields, in the order in which __init__ sets them -/
def mF (en ha : Int) (sl el : Addr) (de : Int) (ll : Addr) (wi : Int) : List (Str × V) :=
  [("ends", .int en), ("hammer", .int ha), ("seconds_left", .ref sl), ("ended", .ref el), ("delivered", .int de), ("lying", .ref ll), ("winner", .int wi)]
section
variable {en ha : Int} {sl el : Addr} {de : Int} {ll : Addr} {wi : Int}
theorem lk_ends : (mF en ha sl el de ll wi).lookup ("ends" : Str) = some (.int en) := lk_here
theorem lk_hammer : (mF en ha sl el de ll wi).lookup ("hammer" : Str) = some (.int ha) := (lk_past (by decide +kernel)).trans lk_here
theorem lk_seconds : (mF en ha sl el de ll wi).lookup ("seconds_left" : Str) = some (.ref sl) := (lk_past (by decide +kernel)).trans ((lk_past (by decide +kernel)).trans lk_here)
theorem lk_ended : (mF en ha sl el de ll wi).lookup ("ended" : Str) = some (.ref el) :=
  (lk_past (by decide +kernel)).trans ((lk_past (by decide +kernel)).trans ((lk_past (by decide +kernel)).trans lk_here))
theorem lk_delivered : (mF en ha sl el de ll wi).lookup ("delivered" : Str) = some (.int de) :=
  (lk_past (by decide +kernel)).trans ((lk_past (by decide +kernel)).trans ((lk_past (by decide +kernel)).trans ((lk_past (by decide +kernel)).trans lk_here)))
theorem lk_lying : (mF en ha sl el de ll wi).lookup ("lying" : Str) = some (.ref ll) :=
  (lk_past (by decide +kernel)).trans ((lk_past (by decide +kernel)).trans ((lk_past (by decide +kernel)).trans ((lk_past (by decide +kernel)).trans ((lk_past (by decide +kernel)).trans lk_here))))
theorem lk_winner : (mF en ha sl el de ll wi).lookup ("winner" : Str) = some (.int wi) :=
  (lk_past (by decide +kernel)).trans ((lk_past (by decide +kernel)).trans ((lk_past (by decide +kernel)).trans ((lk_past (by decide +kernel)).trans ((lk_past (by decide +kernel)).trans ((lk_past (by decide +kernel)).trans lk_here)))))
theorem mF_no {m : Str} (h : (["ends", "hammer", "seconds_left", "ended", "delivered", "lying", "winner"] : List Str).all (fun f => !(m == f)) = true) : (mF en ha sl el de ll wi).lookup m = none := by
  have q := List.all_eq_true.mp h
  have n : ∀ f : Str, f ∈ (["ends", "hammer", "seconds_left", "ended", "delivered", "lying", "winner"] : List Str) → (m == f) = false := fun f hf => by
    have := q f hf
    cases e : m == f with
    | false => rfl
    | true =>
      rw [e] at this
      cases this
  unfold mF
  rw [lk_past (n _ (by simp)), lk_past (n _ (by simp)), lk_past (n _ (by simp)), lk_past (n _ (by simp)), lk_past (n _ (by simp)), lk_past (n _ (by simp)), lk_past (n _ (by simp))]
  rfl
theorem put_hammer (z : Int) : putF "hammer" (.int z) (mF en ha sl el de ll wi) = mF en z sl el de ll wi := (put_past (by decide +kernel)).trans (congrArg _ put_here)
theorem put_seconds (a : Addr) : putF "seconds_left" (.ref a) (mF en ha sl el de ll wi) = mF en ha a el de ll wi :=
  (put_past (by decide +kernel)).trans (congrArg _ ((put_past (by decide +kernel)).trans (congrArg _ put_here)))
theorem put_delivered (z : Int) : putF "delivered" (.int z) (mF en ha sl el de ll wi) = mF en ha sl el z ll wi :=
  (put_past (by decide +kernel)).trans (congrArg _ ((put_past (by decide +kernel)).trans (congrArg _ ((put_past (by decide +kernel)).trans (congrArg _ ((put_past (by decide +kernel)).trans (congrArg _ put_here)))))))
theorem put_lying (a : Addr) : putF "lying" (.ref a) (mF en ha sl el de ll wi) = mF en ha sl el de a wi :=
  (put_past (by decide +kernel)).trans (congrArg _ ((put_past (by decide +kernel)).trans (congrArg _ ((put_past (by decide +kernel)).trans (congrArg _ ((put_past (by decide +kernel)).trans (congrArg _ ((put_past (by decide +kernel)).trans (congrArg _ put_here)))))))))
theorem put_winner (z : Int) : putF "winner" (.int z) (mF en ha sl el de ll wi) = mF en ha sl el de ll z :=
  (put_past (by decide +kernel)).trans (congrArg _ ((put_past (by decide +kernel)).trans (congrArg _ ((put_past (by decide +kernel)).trans (congrArg _ ((put_past (by decide +kernel)).trans (congrArg _ ((put_past (by decide +kernel)).trans (congrArg _ ((put_past (by decide +kernel)).trans (congrArg _ put_here)))))))))))
end
/-- the match g stands at m; B is what it doesn't touch -/
structure MatchIn (CM : Addr) (B H : Hp) (m dx sl el ll : Addr) (g : Game) (qs : List (Addr × (Nat × Nat))) (ps : List (Addr × Stone)) : Prop where
  ins : H m = some (.ins CM dx (mF g.ends g.hammer sl el g.count ll (Kg65.opt g.won)))
  secs : H sl = some (.lst [.int g.timeA, .int g.timeB])
  ended : H el = some (.lst (qs.map fun q => V.ref q.1))
  pairs : ∀ q ∈ qs, H q.1 = some (.tup [.int (q.2.1 : Nat), .int (q.2.2 : Nat)])
  stones : StonesAt H ll ps
  eqs : qs.map (·.2) = g.scores
  eps : ps.map (·.2) = g.stones
  bm : B m = none
  bsl : B sl = none
  bel : B el = none
  bll : B ll = none
  ne1 : sl ≠ el
  ne2 : ll ≠ sl
  ne3 : ll ≠ el
def MatchAt (CM : Addr) (B H : Hp) (m : Addr) (g : Game) : Prop := ∃ dx sl el ll qs ps, MatchIn CM B H m dx sl el ll g qs ps
/-- what stays true of a match -/
structure Fit (N : Nat) (g : Game) : Prop where
  ham : g.hammer ≤ 1
  len : g.stones.length ≤ 20
  near : ∀ s ∈ g.stones, Near s
  scl : g.scores.length ≤ N
section
variable {CM : Addr} {B B' H H' : Hp} {m dx sl el ll : Addr} {g : Game} {qs : List (Addr × (Nat × Nat))} {ps : List (Addr × Stone)}
theorem MatchIn.same (s : Same H H') (M : MatchIn CM B H m dx sl el ll g qs ps) : MatchIn CM B H' m dx sl el ll g qs ps :=
  ⟨s _ _ M.ins, s _ _ M.secs, s _ _ M.ended, fun q hq => s _ _ (M.pairs q hq), M.stones.same s, M.eqs, M.eps, M.bm, M.bsl, M.bel, M.bll, M.ne1, M.ne2, M.ne3⟩
theorem MatchAt.same (s : Same H H') (M : MatchAt CM B H m g) : MatchAt CM B H' m g := by
  obtain ⟨dx, sl, el, ll, qs, ps, M⟩ := M
  exact ⟨dx, sl, el, ll, qs, ps, M.same s⟩
/-- less is to be left alone -/
theorem MatchIn.less (s : Same B B') (M : MatchIn CM B' H m dx sl el ll g qs ps) : MatchIn CM B H m dx sl el ll g qs ps :=
  ⟨M.ins, M.secs, M.ended, M.pairs, M.stones, M.eqs, M.eps, s.free M.bm, s.free M.bsl, s.free M.bel, s.free M.bll, M.ne1, M.ne2, M.ne3⟩
theorem MatchAt.less (s : Same B B') (M : MatchAt CM B' H m g) : MatchAt CM B H m g := by
  obtain ⟨dx, sl, el, ll, qs, ps, M⟩ := M
  exact ⟨dx, sl, el, ll, qs, ps, M.less s⟩
theorem MatchIn.nears (M : MatchIn CM B H m dx sl el ll g qs ps) {N : Nat} (F : Fit N g) : Nears ps := fun p hp => F.near p.2 (M.eps ▸ List.mem_map.mpr ⟨p, hp, rfl⟩)
theorem MatchIn.plen (M : MatchIn CM B H m dx sl el ll g qs ps) {N : Nat} (F : Fit N g) : ps.length ≤ 20 := by
  have := F.len
  rw [← M.eps, List.length_map] at this
  exact this
theorem MatchIn.qlen (M : MatchIn CM B H m dx sl el ll g qs ps) : qs.length = g.scores.length := by
  rw [← M.eqs, List.length_map]
theorem same_mut {o : HO} (s : Same B H) (h : B m = none) : Same B (upd H m o) := fun b x e => by
  rw [upd_ne (ne_of_none e h)]
  exact s b x e
/-- a field of whole numbers is stored -/
theorem MatchIn.put (M : MatchIn CM B H m dx sl el ll g qs ps) (g' : Game) (e1 : g'.stones = g.stones) (e2 : g'.scores = g.scores) (e3 : g'.timeA = g.timeA) (e4 : g'.timeB = g.timeB) :
    MatchIn CM B (upd H m (.ins CM dx (mF g'.ends g'.hammer sl el g'.count ll (Kg65.opt g'.won)))) m dx sl el ll g' qs ps := by
  have nl : ∀ a xs, H a = some (.lst xs) → a ≠ m := fun a xs h => ne_of h M.ins (by intro z; cases z)
  have nt : ∀ a xs, H a = some (.tup xs) → a ≠ m := fun a xs h => ne_of h M.ins (by intro z; cases z)
  refine ⟨upd_same, ?_, ?_, fun q hq => ?_, ⟨?_, fun p hp => ?_⟩, M.eqs.trans e2.symm, M.eps.trans e1.symm, M.bm, M.bsl, M.bel, M.bll, M.ne1, M.ne2, M.ne3⟩
  · rw [upd_ne (nl _ _ M.secs), e3, e4]
    exact M.secs
  · rw [upd_ne (nl _ _ M.ended)]
    exact M.ended
  · rw [upd_ne (nt _ _ (M.pairs q hq))]
    exact M.pairs q hq
  · rw [upd_ne (nl _ _ M.stones.lst)]
    exact M.stones.lst
  · rw [upd_ne (nt _ _ (M.stones.tup p hp))]
    exact M.stones.tup p hp
/-- other stones lie -/
theorem MatchIn.putLying (M : MatchIn CM B H m dx sl el ll g qs ps) {l : Addr} {ps' : List (Addr × Stone)} (S : StonesAt H l ps') (b : B l = none) (n1 : l ≠ sl) (n2 : l ≠ el) :
    MatchIn CM B (upd H m (.ins CM dx (mF g.ends g.hammer sl el g.count l (Kg65.opt g.won)))) m dx sl el l { g with stones := ps'.map (·.2) } qs ps' := by
  have nl : ∀ a xs, H a = some (.lst xs) → a ≠ m := fun a xs h => ne_of h M.ins (by intro z; cases z)
  have nt : ∀ a xs, H a = some (.tup xs) → a ≠ m := fun a xs h => ne_of h M.ins (by intro z; cases z)
  refine ⟨upd_same, ?_, ?_, fun q hq => ?_, ⟨?_, fun p hp => ?_⟩, M.eqs, rfl, M.bm, M.bsl, M.bel, b, M.ne1, n1, n2⟩
  · rw [upd_ne (nl _ _ M.secs)]
    exact M.secs
  · rw [upd_ne (nl _ _ M.ended)]
    exact M.ended
  · rw [upd_ne (nt _ _ (M.pairs q hq))]
    exact M.pairs q hq
  · rw [upd_ne (nl _ _ S.lst)]
    exact S.lst
  · rw [upd_ne (nt _ _ (S.tup p hp))]
    exact S.tup p hp
/-- a new list of the time left -/
theorem MatchIn.putSecs (M : MatchIn CM B H m dx sl el ll g qs ps) {l : Addr} {x y : Int} (S : H l = some (.lst [.int x, .int y])) (b : B l = none) (n1 : l ≠ el) (n2 : ll ≠ l) :
    MatchIn CM B (upd H m (.ins CM dx (mF g.ends g.hammer l el g.count ll (Kg65.opt g.won)))) m dx l el ll { g with timeA := x, timeB := y } qs ps := by
  have nl : ∀ a xs, H a = some (.lst xs) → a ≠ m := fun a xs h => ne_of h M.ins (by intro z; cases z)
  have nt : ∀ a xs, H a = some (.tup xs) → a ≠ m := fun a xs h => ne_of h M.ins (by intro z; cases z)
  refine ⟨upd_same, ?_, ?_, fun q hq => ?_, ⟨?_, fun p hp => ?_⟩, M.eqs, M.eps, M.bm, b, M.bel, M.bll, n1, n2, M.ne3⟩
  · rw [upd_ne (nl _ _ S)]
    exact S
  · rw [upd_ne (nl _ _ M.ended)]
    exact M.ended
  · rw [upd_ne (nt _ _ (M.pairs q hq))]
    exact M.pairs q hq
  · rw [upd_ne (nl _ _ M.stones.lst)]
    exact M.stones.lst
  · rw [upd_ne (nt _ _ (M.stones.tup p hp))]
    exact M.stones.tup p hp
/-- the time left is changed in its list -/
theorem MatchIn.setSecs (M : MatchIn CM B H m dx sl el ll g qs ps) (x y : Int) :
    MatchIn CM B (upd H sl (.lst [.int x, .int y])) m dx sl el ll { g with timeA := x, timeB := y } qs ps := by
  have nm : m ≠ sl := ne_of M.ins M.secs (by intro z; cases z)
  have nt : ∀ a xs, H a = some (.tup xs) → a ≠ sl := fun a xs h => ne_of h M.secs (by intro z; cases z)
  refine ⟨?_, upd_same, ?_, fun q hq => ?_, ⟨?_, fun p hp => ?_⟩, M.eqs, M.eps, M.bm, M.bsl, M.bel, M.bll, M.ne1, M.ne2, M.ne3⟩
  · rw [upd_ne nm]
    exact M.ins
  · rw [upd_ne M.ne1.symm]
    exact M.ended
  · rw [upd_ne (nt _ _ (M.pairs q hq))]
    exact M.pairs q hq
  · rw [upd_ne M.ne2]
    exact M.stones.lst
  · rw [upd_ne (nt _ _ (M.stones.tup p hp))]
    exact M.stones.tup p hp
/-- an end's points are appended -/
theorem MatchIn.addEnd (M : MatchIn CM B H m dx sl el ll g qs ps) {t : Addr} {a b : Nat} (ht : H t = some (.tup [.int (a : Nat), .int (b : Nat)])) :
    MatchIn CM B (upd H el (.lst ((qs.map fun q => V.ref q.1) ++ [.ref t]))) m dx sl el ll { g with scores := g.scores ++ [(a, b)] } (qs ++ [(t, (a, b))]) ps := by
  have nm : m ≠ el := ne_of M.ins M.ended (by intro z; cases z)
  have nt : ∀ a xs, H a = some (.tup xs) → a ≠ el := fun a xs h => ne_of h M.ended (by intro z; cases z)
  refine ⟨?_, ?_, ?_, fun q hq => ?_, ⟨?_, fun p hp => ?_⟩, ?_, M.eps, M.bm, M.bsl, M.bel, M.bll, M.ne1, M.ne2, M.ne3⟩
  · rw [upd_ne nm]
    exact M.ins
  · rw [upd_ne M.ne1]
    exact M.secs
  · rw [upd_same, List.map_append]
    rfl
  · rcases List.mem_append.mp hq with hq | hq
    · rw [upd_ne (nt _ _ (M.pairs q hq))]
      exact M.pairs q hq
    · rw [List.mem_singleton.mp hq, upd_ne (nt _ _ ht)]
      exact ht
  · rw [upd_ne M.ne3]
    exact M.stones.lst
  · rw [upd_ne (nt _ _ (M.stones.tup p hp))]
    exact M.stones.tup p hp
  · rw [List.map_append, M.eqs]
    rfl
end
/-! ### what the methods that only read promise -/
/-- a list of whole numbers that tells of the match -/
def spTell (CM : Addr) (out : Game → List Int) : Sp := fun vs H Q _ => ∃ (m : Addr) (g : Game) (B : Hp) (N : Nat), vs = [.ref m] ∧ MatchAt CM B H m g ∧ Fit N g ∧ N ≤ 1000 ∧
  ∀ (H' : Hp) (p : Addr), Same H H' → H p = none → H' p = some (.lst ((out g).map V.int)) → Q (.ref p) H'
def spIsOver (CM : Addr) : Sp := fun vs H Q _ => ∃ (m : Addr) (g : Game) (B : Hp), vs = [.ref m] ∧ MatchAt CM B H m g ∧ Q (.bl g.won.isSome) H
def spPoints (CM : Addr) : Sp := fun vs H Q _ => ∃ (m : Addr) (g : Game) (B : Hp) (N side : Nat), vs = [.ref m, .int side] ∧ side ≤ 1 ∧ MatchAt CM B H m g ∧ Fit N g ∧ N ≤ 1000 ∧
  ∀ H' : Hp, Same H H' → Q (.int (g.total side : Nat)) H'
theorem opt_over (w : Option Nat) : (!decide (V.int (Kg65.opt w) = V.int (-1))) = w.isSome := by
  cases w with
  | none => rfl
  | some n =>
    have : ¬ V.int (Kg65.opt (some n)) = V.int (-1) := fun z => by
      have := V.int.inj z
      have e : Kg65.opt (some n) = (n : Int) := rfl
      omega
    rw [decide_eq_false this]
    rfl
theorem sum_cast : ∀ l : List Nat, (l.map fun n : Nat => (n : Int)).sum = ((l.sum : Nat) : Int)
  | [] => rfl
  | n :: l => by
    rw [List.map_cons, List.sum_cons, List.sum_cons, sum_cast l]
    omega
section
variable {P : Program} {w : World} {K : PySem.W.Frag} {mg : Str → Option Value} {base : Heap} {CM CL AD : Addr}
theorem ok_is_over {f : Addr} {fd : FuncData} (F : Fun K "is_over" "Match.is_over" s_Match_is_over f fd) (T : Txt K mg CM CL AD) : FnOk P w K mg base CX0 1 f fd ["self"] (spIsOver CM) := by
  refine F.ok sc_Match_is_over (fun vs H Q E h => ?_) (fun cdv A outer s H vs Q E hr h => ?_)
  · obtain ⟨m, g, B, rfl, _⟩ := h
    rfl
  · obtain ⟨m, g, B, rfl, ⟨dx, sl, el, ll, qs, ps, M⟩, q⟩ := h
    refine ⟨_, (pss_one (ps_ret (pe_cmpR op_ne (pe_fld (pv 0) rfl) (pe_gi T.gNOBODY rfl) (nomark _)))), ?_⟩
    exact ⟨_, rfl, m, CM, dx, _, _, rfl, M.ins, T.clM, T.aWinner, lk_winner, rfl, bl_of q (opt_over g.won)⟩
theorem ok_points {f : Addr} {fd : FuncData} (F : Fun K "points" "Match.points" s_Match_points f fd) (T : Txt K mg CM CL AD) : FnOk P w K mg base CX0 1 f fd ["self", "side"] (spPoints CM) := by
  refine F.ok sc_Match_points (fun vs H Q E h => ?_) (fun cdv A outer s H vs Q E hr h => ?_)
  · obtain ⟨m, g, B, N, side, rfl, _⟩ := h
    rfl
  · obtain ⟨m, g, B, N, side, rfl, hs, ⟨dx, sl, el, ll, qs, ps, M⟩, FT, hN, q⟩ := h
    refine ⟨_, (pss_one (ps_ret (pe_callB (cr_sum rfl) (by rfl) T.nsum (by decide +kernel) (pa_cons (pe_lc (own := [("end", 2)]) (g := gName 2) (tt := tYes) (by rfl) sc_Match_points.nd (pi_list (pe_fld (pv 0) rfl)) (blkOk_by (N := N_Match_points) (sc := defScope s_Match_points) (by decide +kernel)) (fun _ _ _ _ _ => pg_name (i := 2) sc_Match_points.nd rfl (Or.inl rfl)) (fun _ _ _ _ _ => pts_nil) (fun _ _ _ _ _ => (pe_ix (r := rIxT K) ix_tup (pv 2) (pv 1) (fun _ _ => rfl)))) pa_nil)))), ?_⟩
    refine ⟨_, rfl, m, CM, dx, _, _, rfl, M.ins, T.clM, T.aEnded, lk_ended, el, rfl, ⟨_, SqL.of M.ended⟩, fun D hD =>
      lc_pure qs (fun q => V.ref q.1) (fun _ => true) (fun q => .int ((if side = 0 then q.2.1 else q.2.2 : Nat))) (SqL.of M.ended) hD ?_ ?_ ?_⟩
    · rw [M.qlen]
      exact Nat.lt_of_le_of_lt FT.scl (small1000 hN)
    · intro p H1 R N hp s1 hR hN
      have ht := s1 _ _ (M.pairs p hp)
      refine ⟨rfl, ?_⟩
      refine iteT (B := N H1) ?_
      refine ⟨_, rfl, _, rfl, p.1, _, _, _, rfl, rfl, SqT.of ht, atI_nat (j := side) ?_, hR rfl⟩
      match side, hs with
      | 0, _ => rfl
      | 1, _ => rfl
    · refine ⟨D, (qs.map fun q => ((if side = 0 then q.2.1 else q.2.2 : Nat) : Int)), rfl, SqL.of ?_, int_of (q _ (same_upd hD)) ?_⟩
      · rw [List.map_map, List.filter_eq_self.mpr (fun _ _ => rfl)]
        exact upd_same
      · show _ = ((((g.scores.map fun p => if side = 0 then p.1 else p.2).sum : Nat)) : Int)
        rw [← M.eqs, ← sum_cast, List.map_map, List.map_map]
        rfl
theorem ok_standing {f : Addr} {fd : FuncData} (F : Fun K "standing" "Match.standing" s_Match_standing f fd) (T : Txt K mg CM CL AD)
    (M_points : MethOk P w K mg base CM "points" 1 ["self", "side"] (spPoints CM)) : FnOk P w K mg base CX0 2 f fd ["self"] (spTell CM Kg65.told) := by
  refine F.ok sc_Match_standing (fun vs H Q E h => ?_) (fun cdv A outer s H vs Q E hr h => ?_)
  · obtain ⟨m, g, B, N, rfl, _⟩ := h
    rfl
  · obtain ⟨m, g, B, N, rfl, ⟨dx, sl, el, ll, qs, ps, M⟩, FT, hN, q⟩ := h
    refine ⟨_, (pss_one (ps_ret (pe_lst (pa_cons (pe_methD (pv 0) T.clM M_points (by exact hr.mono (by decide)) (pa_cons pe_int pa_nil)) (pa_cons (pe_methD (pv 0) T.clM M_points (by exact hr.mono (by decide)) (pa_cons pe_int pa_nil)) (pa_cons (pe_callB call_len_seq (by rfl) T.nlen PySem.boot_len (pa_cons (pe_fld (pv 0) rfl) pa_nil)) (pa_cons (pe_fld (pv 0) rfl) (pa_cons (pe_fld (pv 0) rfl) (pa_cons (pe_fld (pv 0) rfl) pa_nil))))))))), ?_⟩
    refine ⟨_, rfl, m, dx, _, rfl, M.ins, mF_no (by decide +kernel), m, g, B, N, 0, rfl, by decide, ⟨dx, sl, el, ll, qs, ps, M⟩, FT, hN, fun H1 s1 => ?_⟩
    have M1 := M.same s1
    refine ⟨_, rfl, m, dx, _, rfl, M1.ins, mF_no (by decide +kernel), m, g, B, N, 1, rfl, by decide, ⟨dx, sl, el, ll, qs, ps, M1⟩, FT, hN, fun H2 s2 => ?_⟩
    have M2 := M1.same s2
    refine ⟨_, rfl, m, CM, dx, _, _, rfl, M2.ins, T.clM, T.aEnded, lk_ended, el, _, rfl, .inl (SqL.of M2.ended), ?_⟩
    refine ⟨_, rfl, m, CM, dx, _, _, rfl, M2.ins, T.clM, T.aHammer, lk_hammer, ?_⟩
    refine ⟨_, rfl, m, CM, dx, _, _, rfl, M2.ins, T.clM, T.aDelivered, lk_delivered, ?_⟩
    refine ⟨_, rfl, m, CM, dx, _, _, rfl, M2.ins, T.clM, T.aWinner, lk_winner, ?_⟩
    refine ⟨(by show 6 ≤ sizeLine; decide), fun p np => ?_⟩
    refine q _ p ((s1.trans s2).trans (same_upd np)) ((s1.trans s2).free np) ?_
    rw [upd_same, List.length_map, M.qlen]
    rfl
end
end Cm

namespace Cm
open PySem PySem.Spec PyProof.Rows L2
def nowOf (g : Game) : List Int := (if g.won.isSome = true then 1 else 0) :: (Kg65.told g ++ [((g.sideOf g.count : Nat) : Int), g.timeA, g.timeB])
def stonesOf (g : Game) : List Int := (g.stones.length : Nat) :: g.stones.flatMap (Kg65.showStone g)
def scoresOf (g : Game) : List Int := (g.scores.length : Nat) :: g.scores.flatMap fun p => [((p.1 : Nat) : Int), ((p.2 : Nat) : Int)]
def shotOf (g : Game) : List Int := [((g.counts 0 : Nat) : Int) + (g.counts 1 : Nat), (g.counts 0 : Nat), (g.counts 1 : Nat)]
theorem told_len (g : Game) : (Kg65.told g).length = 6 := rfl
theorem flat_more {α β : Type} {f : α → List β} {l : List α} {i : Nat} {x : α} (h : l[i]? = some x) : (l.take (i + 1)).flatMap f = (l.take i).flatMap f ++ f x := by
  rw [take_more h, List.flatMap_append]
  simp
theorem flat_len {α β : Type} {f : α → List β} {k : Nat} (hk : ∀ a, (f a).length ≤ k) : ∀ l : List α, (l.flatMap f).length ≤ l.length * k
  | [] => Nat.zero_le _
  | a :: l => by
    rw [List.flatMap_cons, List.length_append, List.length_cons, Nat.succ_mul]
    have := flat_len hk l
    have := hk a
    omega
section
variable {P : Program} {w : World} {K : PySem.W.Frag} {mg : Str → Option Value} {base : Heap} {CM CL AD : Addr}
theorem ok_now {f : Addr} {fd : FuncData} (F : Fun K "now" "Match.now" s_Match_now f fd) (T : Txt K mg CM CL AD)
    (M_is_over : MethOk P w K mg base CM "is_over" 1 ["self"] (spIsOver CM))
    (M_standing : MethOk P w K mg base CM "standing" 2 ["self"] (spTell CM Kg65.told))
    (D_side_of : DefOk P w K mg base "side_of" 1 ["number", "hammer"] spSide) : FnOk P w K mg base CX0 3 f fd ["self"] (spTell CM nowOf) := by
  refine F.ok sc_Match_now (fun vs H Q E h => ?_) (fun cdv A outer s H vs Q E hr h => ?_)
  · obtain ⟨m, g, B, N, rfl, _⟩ := h
    rfl
  · obtain ⟨m, g, B, N, rfl, ⟨dx, sl, el, ll, qs, ps, M⟩, FT, hN, q⟩ := h
    refine ⟨_, (pss_cons (ps_set (i := 1) sc_Match_now.nd rfl (Or.inl rfl) (pe_ifExp (pt_val (pe_meth0D (pv 0) T.clM M_is_over (by exact hr.mono (by decide)))) pe_int pe_int))
        (pss_one (ps_ret (pe_op op_cat (pe_op op_cat (pe_op op_cat (pe_lst (pa_cons (pv 1) pa_nil)) (pe_meth0D (pv 0) T.clM M_standing (by exact hr.mono (by decide)))) (pe_lst (pa_cons (pe_callD D_side_of (by exact hr.mono (by decide)) (by rfl) (pa_cons (pe_fld (pv 0) rfl) (pa_cons (pe_fld (pv 0) rfl) pa_nil))) pa_nil))) (pe_fld (pv 0) rfl))))), ?_⟩
    refine ⟨_, rfl, m, dx, _, rfl, M.ins, mF_no (by decide +kernel), m, g, B, rfl, ⟨dx, sl, el, ll, qs, ps, M⟩, _, rfl, ?_⟩
    have key : ∀ z : Int, z = (if g.won.isSome = true then 1 else 0) → tRet (tOp rCat (tOp rCat (tOp rCat (tLst (tCons (tVar 1) tNil)) (tMeth CM "standing" (spTell CM Kg65.told) [] E0 (tVar 0) tNil))
        (tLst (tCons (tCall spSide [] E0 (tCons (tFld K (tVar 0) "delivered") (tCons (tFld K (tVar 0) "hammer") tNil))) tNil))) (tFld K (tVar 0) "seconds_left"))
        { nx := fun _ H' => Q .non H', rt := Q } [some (.ref m), some (.int z)] H := by
      intro z hz
      refine ⟨_, rfl, (by show 1 ≤ sizeLine; decide), fun p1 n1 => ?_⟩
      have sA : Same H _ := same_upd (o := .lst [.int z]) n1
      have e1 : (upd H p1 (.lst [.int z])) p1 = some (.lst [.int z]) := upd_same
      generalize upd H p1 (.lst [.int z]) = H1 at sA e1 ⊢
      have M1 := M.same sA
      refine ⟨_, rfl, m, dx, _, rfl, M1.ins, mF_no (by decide +kernel), m, g, B, N, rfl, ⟨dx, sl, el, ll, qs, ps, M1⟩, FT, hN, fun H2 p2 s2 n2 e2 => ?_⟩
      refine ⟨p1, p2, _, _, rfl, rfl, s2 _ _ e1, e2, (by show 1 + 6 ≤ sizeLine; decide), fun p3 n3 => ?_⟩
      have s3 : Same H2 _ := same_upd (o := .lst ([.int z] ++ (Kg65.told g).map V.int)) n3
      have e3 : (upd H2 p3 (.lst ([.int z] ++ (Kg65.told g).map V.int))) p3 = some (.lst ([.int z] ++ (Kg65.told g).map V.int)) := upd_same
      generalize upd H2 p3 (.lst ([.int z] ++ (Kg65.told g).map V.int)) = H3 at s3 e3 ⊢
      have M3 := (M1.same s2).same s3
      refine ⟨_, rfl, m, CM, dx, _, _, rfl, M3.ins, T.clM, T.aDelivered, lk_delivered, _, rfl, m, CM, dx, _, _, rfl, M3.ins, T.clM, T.aHammer, lk_hammer, _, _, rfl, ?_⟩
      rw [sideZ_is g _ FT.ham]
      refine ⟨(by show 1 ≤ sizeLine; decide), fun p4 n4 => ?_⟩
      have s4 : Same H3 _ := same_upd (o := .lst [.int ((g.sideOf g.count : Nat) : Int)]) n4
      refine ⟨p3, p4, _, _, rfl, rfl, s4 _ _ e3, upd_same, (by show 7 + 1 ≤ sizeLine; decide), fun p5 n5 => ?_⟩
      have s5 : Same (upd H3 p4 (.lst [.int ((g.sideOf g.count : Nat) : Int)])) _ := same_upd (o := .lst (([.int z] ++ (Kg65.told g).map V.int) ++ [.int ((g.sideOf g.count : Nat) : Int)])) n5
      have M5 := (M3.same s4).same s5
      refine ⟨_, rfl, m, CM, dx, _, _, rfl, M5.ins, T.clM, T.aSeconds, lk_seconds, p5, sl, _, _, rfl, rfl, upd_same, M5.secs, (by show 8 + 2 ≤ sizeLine; decide), fun p6 n6 => ?_⟩
      have sB := ((((sA.trans s2).trans s3).trans s4).trans s5)
      refine q _ p6 (sB.trans (same_upd n6)) (sB.free n6) ?_
      rw [upd_same, hz]
      rfl
    refine ite2 (fun c => key 1 ?_) (fun c => key 0 ?_)
    · rw [if_pos c]
    · rw [if_neg c]
theorem ok_shot {f : Addr} {fd : FuncData} (F : Fun K "shot" "Match.shot" s_Match_shot f fd) (T : Txt K mg CM CL AD)
    (D_end_points : DefOk P w K mg base "end_points" 4 ["stones", "hammer"] spEnd) : FnOk P w K mg base CX0 5 f fd ["self"] (spTell CM shotOf) := by
  refine F.ok sc_Match_shot (fun vs H Q E h => ?_) (fun cdv A outer s H vs Q E hr h => ?_)
  · obtain ⟨m, g, B, N, rfl, _⟩ := h
    rfl
  · obtain ⟨m, g, B, N, rfl, ⟨dx, sl, el, ll, qs, ps, M⟩, FT, hN, q⟩ := h
    refine ⟨_, (pss_cons (ps_set (i := 1) sc_Match_shot.nd rfl (Or.inl rfl) (pe_callD D_end_points (by exact hr.mono (by decide)) (by rfl) (pa_cons (pe_fld (pv 0) rfl) (pa_cons (pe_fld (pv 0) rfl) pa_nil))))
        (pss_one (ps_ret (pe_lst (pa_cons (pe_op op_add (pe_ix (r := rIxT K) ix_tup (pv 1) pe_int (fun _ _ => rfl)) (pe_ix (r := rIxT K) ix_tup (pv 1) pe_int (fun _ _ => rfl))) (pa_cons (pe_ix (r := rIxT K) ix_tup (pv 1) pe_int (fun _ _ => rfl)) (pa_cons (pe_ix (r := rIxT K) ix_tup (pv 1) pe_int (fun _ _ => rfl)) pa_nil))))))), ?_⟩
    refine ⟨_, rfl, m, CM, dx, _, _, rfl, M.ins, T.clM, T.aLying, lk_lying, _, rfl, m, CM, dx, _, _, rfl, M.ins, T.clM, T.aHammer, lk_hammer,
      ll, ps, g, rfl, M.stones, M.nears FT, M.plen FT, M.eps, FT.ham, fun H1 p s1 np hp => ?_⟩
    refine ⟨_, rfl, p, _, 0, _, rfl, rfl, SqT.of hp, atI_nat (j := 0) rfl, _, rfl, p, _, 1, _, rfl, rfl, SqT.of hp, atI_nat (j := 1) rfl, _, _, rfl, rfl,
      _, rfl, p, _, 0, _, rfl, rfl, SqT.of hp, atI_nat (j := 0) rfl, _, rfl, p, _, 1, _, rfl, rfl, SqT.of hp, atI_nat (j := 1) rfl, (by show 3 ≤ sizeLine; decide), fun p6 n6 => ?_⟩
    exact q _ p6 (s1.trans (same_upd n6)) (s1.free n6) upd_same
theorem ok_scores {f : Addr} {fd : FuncData} (F : Fun K "scores" "Match.scores" s_Match_scores f fd) (T : Txt K mg CM CL AD) : FnOk P w K mg base CX0 1 f fd ["self"] (spTell CM scoresOf) := by
  refine F.ok sc_Match_scores (fun vs H Q E h => ?_) (fun cdv A outer s H vs Q E hr h => ?_)
  · obtain ⟨m, g, B, N, rfl, _⟩ := h
    rfl
  · obtain ⟨m, g, B, N, rfl, ⟨dx, sl, el, ll, qs, ps, M⟩, FT, hN, q⟩ := h
    refine ⟨_, (pss_cons (ps_set (i := 1) sc_Match_scores.nd rfl (Or.inl rfl) (pe_lst (pa_cons (pe_callB call_len_seq (by rfl) T.nlen PySem.boot_len (pa_cons (pe_fld (pv 0) rfl) pa_nil)) pa_nil)))
        (pss_cons (ps_for PassesOwn.never rfl (pi_list (pe_fld (pv 0) rfl)) (pg_name (i := 2) sc_Match_scores.nd rfl (Or.inl rfl))
          (pss_one (ps_expr (pe_bm PySem.F.plainAttrs_list PySem.F.slot_list_extend PySem.F.type_list_extend mt_extendT (pv 1) (pa_cons (pv 2) pa_nil)))))
        (pss_one (ps_ret (pv 1))))), ?_⟩
    refine ⟨_, rfl, m, CM, dx, _, _, rfl, M.ins, T.clM, T.aEnded, lk_ended, el, _, rfl, .inl (SqL.of M.ended), (by show 1 ≤ sizeLine; decide), fun t nt => ?_⟩
    have s0 : Same H _ := same_upd (o := .lst [.int ((qs.map fun q => V.ref q.1).length : Nat)]) nt
    refine ⟨_, rfl, m, CM, dx, _, _, rfl, (M.same s0).ins, T.clM, T.aEnded, lk_ended, el, rfl, ⟨_, SqL.of (M.same s0).ended⟩,
      for_list (fun i σ H' => ∃ v, σ = [some (.ref m), some (.ref t), v] ∧ H' = upd H t (.lst ((((g.scores.length : Nat) : Int) :: (g.scores.take i).flatMap fun p => [((p.1 : Nat) : Int), ((p.2 : Nat) : Int)]).map V.int)))
        ⟨none, rfl, ?_⟩ (fun i σ H' _ ⟨_, _, e⟩ => e ▸ SqL.of (same_upd nt _ _ M.ended)) ?_ ?_⟩
    · rw [List.length_map, M.qlen]
      rfl
    · rintro i x σ H1 hi ⟨v, rfl, rfl⟩
      obtain ⟨p, hp, rfl⟩ := map_at hi
      have ht := same_upd (o := .lst ((((g.scores.length : Nat) : Int) :: (g.scores.take i).flatMap fun p => [((p.1 : Nat) : Int), ((p.2 : Nat) : Int)]).map V.int)) nt _ _ (M.pairs p (List.mem_of_getElem? hp))
      have es : g.scores[i]? = some p.2 := by
        rw [← M.eqs, List.getElem?_map, hp]
        rfl
      have hl := flat_len (f := fun p : Nat × Nat => [((p.1 : Nat) : Int), ((p.2 : Nat) : Int)]) (k := 2) (fun _ => Nat.le_refl _) (g.scores.take i)
      have hl2 := FT.scl
      rw [List.length_take] at hl
      refine ⟨_, rfl, .inl ⟨rfl, _, SqL.of upd_same⟩, _, rfl, t, p.1, _, _, rfl, rfl, upd_same, ht, ?_, ?_⟩
      · rw [List.length_map, List.length_cons]
        refine Nat.le_trans (m := 5000) ?_ (by decide)
        show _ + 2 ≤ 5000
        omega
      · refine ⟨some (.ref p.1), rfl, ?_⟩
        rw [upd_upd, flat_more es, List.map_cons, List.map_cons, List.map_append]
        rfl
    · rintro σ H1 ⟨v, rfl, rfl⟩
      refine ⟨_, rfl, q _ t (same_upd nt) nt ?_⟩
      rw [upd_same, List.length_map, M.qlen, List.take_length]
      rfl
end
end Cm

namespace Cm
open PySem PySem.Spec PyProof.Rows L2
theorem ifC {c : Bool} {σ : L2.St} {H : Hp} {Q : VK} (h : Q (.int (Kg65.truth c)) H) : if c = true then tC (.int 1) σ H Q else tC (.int 0) σ H Q := by
  cases c with
  | true => exact iteT h
  | false => exact iteF h
/-! ### numbers told twice -/
theorem met_nodup {ns : List Int} (h : ns.Nodup) : met ns = ns := by
  unfold met
  rw [RZ.firstMet_nodup h _ (Nat.le_refl _), List.take_length]
theorem met_full (ns : List Int) : ∀ i, i ≤ ns.length → (PyProof.Rows.firstMet (fun i => ns.getD i 0) i).length = i →
    PyProof.Rows.firstMet (fun i => ns.getD i 0) i = ns.take i ∧ (ns.take i).Nodup
  | 0, _, _ => ⟨rfl, List.nodup_nil⟩
  | i + 1, hi, hl => by
    have hlt : i < ns.length := hi
    have ev : ns.getD i 0 = ns[i] := by
      rw [List.getD_eq_getElem?_getD, List.getElem?_eq_getElem hlt]
      rfl
    have et : ns.take (i + 1) = ns.take i ++ [ns[i]] := take_more (List.getElem?_eq_getElem hlt)
    rw [PyProof.Rows.firstMet_succ] at hl ⊢
    unfold PyProof.Rows.step_dedup at hl ⊢
    have hle := PyProof.Rows.firstMet_length_le (fun i => ns.getD i 0) i
    split at hl
    · omega
    · rename_i hn
      rw [List.length_append, List.length_singleton] at hl
      obtain ⟨e1, e2⟩ := met_full ns i (Nat.le_of_lt hlt) (by omega)
      rw [if_neg hn, et, e1, ev]
      refine ⟨rfl, ?_⟩
      rw [List.nodup_append]
      refine ⟨e2, by simp, fun a ha b hb => ?_⟩
      rw [List.mem_singleton.mp hb]
      intro z
      apply hn
      rw [e1, List.any_eq_true]
      refine ⟨a, ha, ?_⟩
      rw [z, ev]
      exact beq_self_eq_true _
theorem met_iff (ns : List Int) : decide (((met ns).length : Int) < (ns.length : Nat)) = !decide ns.Nodup := by
  by_cases h : ns.Nodup
  · rw [met_nodup h, decide_eq_true h]
    exact decide_eq_false (Int.lt_irrefl _)
  · rw [decide_eq_false h]
    refine decide_eq_true ?_
    have hle : (met ns).length ≤ ns.length := PyProof.Rows.firstMet_length_le _ _
    have : (met ns).length ≠ ns.length := fun z => h (by
      have := (met_full ns ns.length (Nat.le_refl _) z).2
      rwa [List.take_length] at this)
    omega
theorem nodup_cast (l : List Nat) : (l.map fun n : Nat => (n : Int)).Nodup ↔ l.Nodup := by
  unfold List.Nodup
  rw [List.pairwise_map]
  exact ⟨fun h => h.imp fun hab z => hab (by rw [z]), fun h => h.imp fun hab z => hab (Int.ofNat.inj z)⟩
theorem inV_ints (n : Int) (ns : List Int) : inV (.int n) (ns.map V.int) = ns.any (· == n) := by
  unfold inV
  rw [List.any_map]
  rfl
theorem flat_ints (ns : List Int) : (ns.map V.int).all flatV = true := by
  rw [List.all_map]
  exact List.all_eq_true.mpr fun _ _ => rfl
def spCanLie (CM : Addr) : Sp := fun vs H Q _ => ∃ (m l : Addr) (g : Game) (B : Hp) (N : Nat) (qs : List (Addr × Stone)), vs = [.ref m, .ref l] ∧ MatchAt CM B H m g ∧ Fit N g ∧ N ≤ 1000 ∧
  StonesAt H l qs ∧ Nears qs ∧ qs.length ≤ 20 ∧ ∀ H' : Hp, Same H H' → Q (.bl (g.couldBe (qs.map (·.2)))) H'
section
variable {P : Program} {w : World} {K : PySem.W.Frag} {mg : Str → Option Value} {base : Heap} {CM CL AD : Addr}
theorem ok_stones {f : Addr} {fd : FuncData} (F : Fun K "stones" "Match.stones" s_Match_stones f fd) (T : Txt K mg CM CL AD)
    (D_side_of : DefOk P w K mg base "side_of" 1 ["number", "hammer"] spSide)
    (D_in_house : DefOk P w K mg base "in_house" 2 ["stone"] (spStone fun s => .bl s.inHouse))
    (D_is_guard : DefOk P w K mg base "is_guard" 3 ["stone"] (spStone fun s => .bl s.guard)) : FnOk P w K mg base CX0 4 f fd ["self"] (spTell CM stonesOf) := by
  refine F.ok sc_Match_stones (fun vs H Q E h => ?_) (fun cdv A outer s H vs Q E hr h => ?_)
  · obtain ⟨m, g, B, N, rfl, _⟩ := h
    rfl
  · obtain ⟨m, g, B, N, rfl, ⟨dx, sl, el, ll, qs, ps, M⟩, FT, hN, q⟩ := h
    refine ⟨_, (pss_cons (ps_set (i := 1) sc_Match_stones.nd rfl (Or.inl rfl) (pe_lst (pa_cons (pe_callB call_len_seq (by rfl) T.nlen PySem.boot_len (pa_cons (pe_fld (pv 0) rfl) pa_nil)) pa_nil)))
        (pss_cons (ps_for PassesOwn.never rfl (pi_list (pe_fld (pv 0) rfl)) (pg_name (i := 2) sc_Match_stones.nd rfl (Or.inl rfl))
          (pss_cons (ps_expr (pe_bm PySem.F.plainAttrs_list PySem.F.slot_list_extend PySem.F.type_list_extend mt_extend (pv 1) (pa_cons (pe_lst (pa_cons (pe_ix (r := rIxT K) ix_tup (pv 2) pe_int (fun _ _ => rfl)) (pa_cons (pe_callD D_side_of (by exact hr.mono (by decide)) (by rfl) (pa_cons (pe_ix (r := rIxT K) ix_tup (pv 2) pe_int (fun _ _ => rfl)) (pa_cons (pe_fld (pv 0) rfl) pa_nil))) (pa_cons (pe_ix (r := rIxT K) ix_tup (pv 2) pe_int (fun _ _ => rfl)) (pa_cons (pe_ix (r := rIxT K) ix_tup (pv 2) pe_int (fun _ _ => rfl)) pa_nil))))) pa_nil)))
          (pss_one (ps_expr (pe_bm PySem.F.plainAttrs_list PySem.F.slot_list_extend PySem.F.type_list_extend mt_extend (pv 1) (pa_cons (pe_lst (pa_cons (pe_ifExp (pt_val (pe_callD D_in_house (by exact hr.mono (by decide)) (by rfl) (pa_cons (pv 2) pa_nil))) pe_int pe_int) (pa_cons (pe_ifExp (pt_val (pe_callD D_is_guard (by exact hr.mono (by decide)) (by rfl) (pa_cons (pv 2) pa_nil))) pe_int pe_int) pa_nil))) pa_nil))))))
        (pss_one (ps_ret (pv 1))))), ?_⟩
    refine ⟨_, rfl, m, CM, dx, _, _, rfl, M.ins, T.clM, T.aLying, lk_lying, ll, _, rfl, .inl (SqL.of M.stones.lst), (by show 1 ≤ sizeLine; decide), fun t nt => ?_⟩
    have s0 : Same H _ := same_upd (o := .lst [.int ((ps.map fun q => V.ref q.1).length : Nat)]) nt
    refine ⟨_, rfl, m, CM, dx, _, _, rfl, (M.same s0).ins, T.clM, T.aLying, lk_lying, ll, rfl, ⟨_, SqL.of (M.same s0).stones.lst⟩,
      for_list (fun i σ H' => ∃ v, σ = [some (.ref m), some (.ref t), v] ∧ Same H H' ∧ H' t = some (.lst ((((g.stones.length : Nat) : Int) :: (g.stones.take i).flatMap (Kg65.showStone g)).map V.int)))
        ⟨none, rfl, s0, ?_⟩ (fun i σ H' _ ⟨_, _, e, _⟩ => SqL.of (e _ _ M.stones.lst)) ?_ ?_⟩
    · rw [upd_same, List.length_map, ← M.eps, List.length_map]
      rfl
    · rintro i x σ H1 hi ⟨v, rfl, s1, et⟩
      obtain ⟨p, hp, rfl⟩ := map_at hi
      have mp := List.mem_of_getElem? hp
      have M1 := M.same s1
      have ht := M1.stones.tup p mp
      have nr := M.nears FT p mp
      have es : g.stones[i]? = some p.2 := by
        rw [← M.eps, List.getElem?_map, hp]
        rfl
      have hl := flat_len (f := Kg65.showStone g) (k := 6) (fun _ => Nat.le_refl _) (g.stones.take i)
      have hl2 := FT.len
      rw [List.length_take] at hl
      refine ⟨_, rfl, .inl ⟨rfl, _, SqL.of et⟩, _, rfl, p.1, _, 0, _, rfl, rfl, SqT.of ht, at0 _, _, rfl, p.1, _, 0, _, rfl, rfl, SqT.of ht, at0 _, _, rfl, m, CM, dx, _, _, rfl, M1.ins, T.clM, T.aHammer, lk_hammer, _, _, rfl, ?_⟩
      rw [sideZ_is g _ FT.ham]
      refine ⟨_, rfl, p.1, _, 1, _, rfl, rfl, SqT.of ht, at1 _, _, rfl, p.1, _, 2, _, rfl, rfl, SqT.of ht, at2 _, (by show 4 ≤ sizeLine; decide), fun c nc => ?_⟩
      have sc : Same H1 _ := same_upd (o := .lst [.int ((p.2.number : Nat) : Int), .int ((g.sideOf p.2.number : Nat) : Int), .int p.2.x, .int p.2.y]) nc
      refine ⟨t, c, _, _, rfl, rfl, sc _ _ et, upd_same, ?_, ?_⟩
      · rw [List.length_map, List.length_cons]
        refine Nat.le_trans (m := 5000) ?_ (by decide)
        show _ + 4 ≤ 5000
        omega
      · have s2 : Same H (upd (upd H1 c (.lst [.int ((p.2.number : Nat) : Int), .int ((g.sideOf p.2.number : Nat) : Int), .int p.2.x, .int p.2.y])) t
            (.lst (((((g.stones.length : Nat) : Int) :: (g.stones.take i).flatMap (Kg65.showStone g)).map V.int) ++ [.int ((p.2.number : Nat) : Int), .int ((g.sideOf p.2.number : Nat) : Int), .int p.2.x, .int p.2.y]))) := same_mut (s1.trans sc) nt
        have et2 := upd_same (H := upd H1 c (.lst [.int ((p.2.number : Nat) : Int), .int ((g.sideOf p.2.number : Nat) : Int), .int p.2.x, .int p.2.y])) (a := t)
            (o := .lst (((((g.stones.length : Nat) : Int) :: (g.stones.take i).flatMap (Kg65.showStone g)).map V.int) ++ [.int ((p.2.number : Nat) : Int), .int ((g.sideOf p.2.number : Nat) : Int), .int p.2.x, .int p.2.y]))
        generalize upd (upd H1 c (.lst [.int ((p.2.number : Nat) : Int), .int ((g.sideOf p.2.number : Nat) : Int), .int p.2.x, .int p.2.y])) t
            (.lst (((((g.stones.length : Nat) : Int) :: (g.stones.take i).flatMap (Kg65.showStone g)).map V.int) ++ [.int ((p.2.number : Nat) : Int), .int ((g.sideOf p.2.number : Nat) : Int), .int p.2.x, .int p.2.y])) = H2 at s2 et2 ⊢
        have ht2 := (M.same s2).stones.tup p mp
        refine ⟨_, rfl, .inl ⟨rfl, _, SqL.of et2⟩, _, rfl, p.1, p.2, rfl, ht2, nr, _, rfl, ifC ?_⟩
        refine ⟨_, rfl, p.1, p.2, rfl, ht2, nr, _, rfl, ifC ?_⟩
        refine ⟨(by show 2 ≤ sizeLine; decide), fun d nd => ?_⟩
        have sd : Same H2 _ := same_upd (o := .lst [.int (Kg65.truth p.2.inHouse), .int (Kg65.truth p.2.guard)]) nd
        refine ⟨t, d, _, _, rfl, rfl, sd _ _ et2, upd_same, ?_, ?_⟩
        · rw [List.length_append, List.length_map, List.length_cons]
          refine Nat.le_trans (m := 5000) ?_ (by decide)
          show _ + 4 + 2 ≤ 5000
          omega
        · refine ⟨some (.ref p.1), rfl, same_mut (s2.trans sd) nt, ?_⟩
          rw [upd_same, flat_more es, List.map_cons, List.map_cons, List.map_append]
          show some (HO.lst ((_ ++ _) ++ _)) = _
          rw [List.append_assoc]
          rfl
    · rintro σ H1 ⟨v, rfl, s1, et⟩
      refine ⟨_, rfl, q _ t s1 nt ?_⟩
      rw [et, List.length_map, ← M.eps, List.length_map]
      have : (ps.map (·.2)).take ps.length = ps.map (·.2) := List.take_of_length_le (by rw [List.length_map]; exact Nat.le_refl _)
      rw [this]
      unfold stonesOf
      rw [← M.eps, List.length_map]
theorem ok_can_lie {f : Addr} {fd : FuncData} (F : Fun K "can_lie" "Match.can_lie" s_Match_can_lie f fd) (T : Txt K mg CM CL AD)
    (D_in_play : DefOk P w K mg base "in_play" 1 ["stone"] (spStone fun s => .bl s.inPlay))
    (D_all_lie_clear : DefOk P w K mg base "all_lie_clear" 2 ["stones"] spAllClear) : FnOk P w K mg base CX0 3 f fd ["self", "stones"] (spCanLie CM) := by
  refine F.ok sc_Match_can_lie (fun vs H Q E h => ?_) (fun cdv A outer s H vs Q E hr h => ?_)
  · obtain ⟨m, l, g, B, N, qs, rfl, _⟩ := h
    rfl
  · obtain ⟨m, l, g, B, N, ss, rfl, ⟨dx, sl, el, ll, qs, ps, M⟩, FT, hN, hS, nr, hz, q⟩ := h
    refine ⟨_, (pss_cons (ps_setLc (i := 3) (own := [("stone", 2)]) (g := gName 2) (tt := tYes) (by rfl) sc_Match_can_lie.nd rfl rfl (sw_true rfl rfl rfl (by decide +kernel)) (pi_list (pv 1)) (blkOk_by (N := N_Match_can_lie) (sc := defScope s_Match_can_lie) (by decide +kernel)) (fun _ _ _ _ _ => pg_name (i := 2) sc_Match_can_lie.nd rfl (Or.inl rfl)) (fun _ _ _ _ _ => pts_nil) (fun _ _ _ _ _ => (pe_ix (r := rIxT K) ix_tup (pv 2) pe_int (fun _ _ => rfl))))
        (pss_cons (ps_if (pt_cmpR op_lt (pe_lenSet (by rfl) T.nlen (by rfl) T.nset (pv 3)) (pe_callB call_len_seq (by rfl) T.nlen PySem.boot_len (pa_cons (pv 3) pa_nil)) (nomark _))
          (pss_one (ps_ret pe_bl))
          pss_nil)
        (pss_cons (ps_set (i := 4) sc_Match_can_lie.nd rfl (Or.inl rfl) (pe_op op_cat (pe_lc (own := [("stone", 2)]) (g := gName 2) (tt := tYes) (by rfl) sc_Match_can_lie.nd (pi_list (pe_fld (pv 0) rfl)) (blkOk_by (N := N_Match_can_lie) (sc := defScope s_Match_can_lie) (by decide +kernel)) (fun _ _ _ _ _ => pg_name (i := 2) sc_Match_can_lie.nd rfl (Or.inl rfl)) (fun _ _ _ _ _ => pts_nil) (fun _ _ _ _ _ => (pe_ix (r := rIxT K) ix_tup (pv 2) pe_int (fun _ _ => rfl)))) (pe_lst (pa_cons (pe_fld (pv 0) rfl) pa_nil))))
        (pss_cons (ps_for PassesOwn.never rfl (pi_list (pv 1)) (pg_name (i := 2) sc_Match_can_lie.nd rfl (Or.inl rfl))
          (pss_one (ps_if (PW.pt (pw_or (pt_cmpR op_notIn_seq (pe_ix (r := rIxT K) ix_tup (pv 2) pe_int (fun _ _ => rfl)) (pv 4) (by rfl)) (pw_or1 (pt_not (pt_val (pe_callD D_in_play (by exact hr.mono (by decide)) (by rfl) (pa_cons (pv 2) pa_nil)))))))
            (pss_one (ps_ret pe_bl))
            pss_nil)))
        (pss_one (ps_ret (pe_callD D_all_lie_clear (by exact hr.mono (by decide)) (by rfl) (pa_cons (pv 1) pa_nil)))))))), ?_⟩
    -- the numbers that are told
    refine ⟨_, rfl, l, rfl, ⟨_, SqL.of hS.lst⟩, fun a ha => lc_pure ss (fun p => V.ref p.1) (fun _ => true) (fun p => .int p.2.number) (SqL.of hS.lst) ha ?_ ?_ ?_⟩
    · exact Nat.lt_of_le_of_lt hz (by decide)
    · intro p H1 R N hp s1 hR hN
      have ht := s1 _ _ (hS.tup p hp)
      refine ⟨rfl, ?_⟩
      refine iteT (B := N H1) ?_
      exact ⟨_, rfl, p.1, _, 0, _, rfl, rfl, SqT.of ht, at0 _, hR rfl⟩
    rw [List.filter_eq_self.mpr (fun _ _ => rfl)]
    have en : (ss.map fun p => V.int p.2.number) = (ss.map fun p => ((p.2.number : Nat) : Int)).map V.int := by
      rw [List.map_map]
      rfl
    rw [en]
    have sA : Same H _ := same_upd (o := .lst ((ss.map fun p => ((p.2.number : Nat) : Int)).map V.int)) ha
    have eA : (upd H a (.lst ((ss.map fun p => ((p.2.number : Nat) : Int)).map V.int))) a = some (.lst ((ss.map fun p => ((p.2.number : Nat) : Int)).map V.int)) := upd_same
    generalize upd H a (.lst ((ss.map fun p => ((p.2.number : Nat) : Int)).map V.int)) = H1 at sA eA ⊢
    refine ⟨_, rfl, a, _, rfl, SqL.of eA, (by rw [List.length_map]; omega), _, rfl, a, _, rfl, .inl (SqL.of eA), _, _, rfl, rfl, _, rfl, ?_⟩
    have eN : (ss.map fun p => ((p.2.number : Nat) : Int)) = ((ss.map (·.2)).map Kg65.Stone.number).map fun n : Nat => (n : Int) := by
      rw [List.map_map, List.map_map]
      rfl
    rw [List.length_map V.int, met_iff, eN]
    have eD : decide (((ss.map (·.2)).map Kg65.Stone.number).map fun n : Nat => (n : Int)).Nodup = decide ((ss.map (·.2)).map Kg65.Stone.number).Nodup := by
      rw [decide_eq_decide]
      exact nodup_cast _
    rw [eD]
    by_cases hd : ((ss.map (·.2)).map Kg65.Stone.number).Nodup
    rotate_left
    · rw [decide_eq_false hd]
      refine iteT ?_
      refine bl_of (q H1 sA) ?_
      unfold Kg65.Game.couldBe
      rw [decide_eq_false hd]
      rfl
    · rw [decide_eq_true hd]
      refine iteF ?_
      have M1 := M.same sA
      -- those that are known
      refine ⟨_, rfl, m, CM, dx, _, _, rfl, M1.ins, T.clM, T.aLying, lk_lying, ll, rfl, ⟨_, SqL.of M1.stones.lst⟩, fun b hb =>
        lc_pure ps (fun p => V.ref p.1) (fun _ => true) (fun p => .int p.2.number) (SqL.of M1.stones.lst) hb ?_ ?_ ?_⟩
      · exact Nat.lt_of_le_of_lt (M.plen FT) (by decide)
      · intro p H2 R N hp s2 hR hN
        have ht := s2 _ _ (M1.stones.tup p hp)
        refine ⟨rfl, ?_⟩
        refine iteT (B := N H2) ?_
        exact ⟨_, rfl, p.1, _, 0, _, rfl, rfl, SqT.of ht, at0 _, hR rfl⟩
      rw [List.filter_eq_self.mpr (fun _ _ => rfl)]
      have sB : Same H1 _ := same_upd (o := .lst (ps.map fun p => V.int p.2.number)) hb
      have eB : (upd H1 b (.lst (ps.map fun p => V.int p.2.number))) b = some (.lst (ps.map fun p => V.int p.2.number)) := upd_same
      generalize upd H1 b (.lst (ps.map fun p => V.int p.2.number)) = H2 at sB eB ⊢
      refine ⟨_, rfl, m, CM, dx, _, _, rfl, (M1.same sB).ins, T.clM, T.aDelivered, lk_delivered, (by show 1 ≤ sizeLine; decide), fun c nc => ?_⟩
      have sC : Same H2 _ := same_upd (o := .lst [.int ((g.count : Nat) : Int)]) nc
      refine ⟨b, c, _, _, rfl, rfl, sC _ _ eB, upd_same, ?_, fun d nd => ?_⟩
      · rw [List.length_map]
        refine Nat.le_trans (m := 21) ?_ (by decide)
        show _ + 1 ≤ 21
        have := M.plen FT
        omega
      have ek : (ps.map fun p => V.int p.2.number) ++ [V.int ((g.count : Nat) : Int)] = ((ps.map fun p => ((p.2.number : Nat) : Int)) ++ [((g.count : Nat) : Int)]).map V.int := by
        rw [List.map_append, List.map_map]
        rfl
      rw [ek]
      have sD : Same (upd H2 c (.lst [.int ((g.count : Nat) : Int)])) _ := same_upd (o := .lst (((ps.map fun p => ((p.2.number : Nat) : Int)) ++ [((g.count : Nat) : Int)]).map V.int)) nd
      have eK := upd_same (H := upd H2 c (.lst [.int ((g.count : Nat) : Int)])) (a := d) (o := .lst (((ps.map fun p => ((p.2.number : Nat) : Int)) ++ [((g.count : Nat) : Int)]).map V.int))
      have s3 := ((sA.trans sB).trans sC).trans sD
      generalize upd (upd H2 c (.lst [.int ((g.count : Nat) : Int)])) d (.lst (((ps.map fun p => ((p.2.number : Nat) : Int)) ++ [((g.count : Nat) : Int)]).map V.int)) = H3 at s3 eK ⊢
      have hall : ∀ p : Addr × Stone, ((ps.map fun p => ((p.2.number : Nat) : Int)) ++ [((g.count : Nat) : Int)]).any (· == ((p.2.number : Nat) : Int)) = (p.2.number == g.count || g.stones.any fun s => s.number == p.2.number) := by
        intro p
        have ec : ∀ a b : Nat, (((a : Nat) : Int) == ((b : Nat) : Int)) = (a == b) := fun a b => by
          rw [Bool.eq_iff_iff, beq_iff_eq, beq_iff_eq]
          omega
        rw [List.any_append, List.any_map, ← M.eps, List.any_map, Bool.or_comm]
        refine congr (congrArg _ ?_) ?_
        · show ((((g.count : Nat) : Int) == ((p.2.number : Nat) : Int)) || false) = _
          rw [Bool.or_false, ec]
          exact Bool.beq_comm
        · refine congrArg (List.any ps) (funext fun x => ?_)
          exact ec _ _
      -- the loop
      refine ⟨_, rfl, l, rfl, ⟨_, SqL.of (s3 _ _ hS.lst)⟩, for_list (fun i σ H' => ∃ v, σ = [some (.ref m), some (.ref l), v, some (.ref a), some (.ref d)] ∧ H' = H3 ∧
        ∀ (j : Nat) (p : Addr × Stone), j < i → ss[j]? = some p → (p.2.inPlay && (p.2.number == g.count || g.stones.any fun s => s.number == p.2.number)) = true)
        ⟨none, rfl, rfl, fun _ _ h => absurd h (Nat.not_lt_zero _)⟩ (fun i σ H' _ ⟨_, _, e, _⟩ => e ▸ SqL.of (s3 _ _ hS.lst)) ?_ ?_⟩
      · rintro i x σ H4 hi ⟨v, rfl, rfl, hc⟩
        obtain ⟨p, hp, rfl⟩ := map_at hi
        have mp := List.mem_of_getElem? hp
        have ht := s3 _ _ (hS.tup p mp)
        have no : (p.2.inPlay && (p.2.number == g.count || g.stones.any fun s => s.number == p.2.number)) = false → Q (.bl false) H4 := fun hn => by
          refine bl_of (q H4 s3) ?_
          unfold Kg65.Game.couldBe
          rw [decide_eq_true hd, Bool.true_and]
          have : (List.map (·.2) ss).all (fun t => t.inPlay && (t.number == g.count || g.stones.any fun s => s.number == t.number)) = false := by
            rw [List.all_eq_false]
            exact ⟨p.2, List.mem_map.mpr ⟨p, mp, rfl⟩, by rw [hn]; exact Bool.false_ne_true⟩
          rw [this]
          rfl
        refine ⟨_, rfl, p.1, _, 0, _, rfl, rfl, SqT.of ht, at0 _, _, rfl, d, _, rfl, .inl (SqL.of eK), rfl, flat_ints _, _, rfl, ?_⟩
        rw [inV_ints, hall p]
        cases hk : (p.2.number == g.count || g.stones.any fun s => s.number == p.2.number) with
        | false =>
          refine iteT ?_
          refine iteT ?_
          exact no (by rw [hk, Bool.and_false])
        | true =>
          refine iteF ?_
          refine ⟨_, rfl, p.1, p.2, rfl, ht, nr p mp, _, rfl, ?_⟩
          cases hp2 : p.2.inPlay with
          | false =>
            refine iteT ?_
            exact no (by rw [hp2]; rfl)
          | true =>
            refine iteF ?_
            refine ⟨_, rfl, rfl, fun j r hj hr => ?_⟩
            by_cases e : j = i
            · subst e
              rw [hp] at hr
              cases hr
              rw [hp2, hk]
              rfl
            · exact hc j r (by omega) hr
      · rintro σ H4 ⟨v, rfl, rfl, hc⟩
        refine ⟨_, rfl, l, ss, rfl, hS.same s3, nr, hz, fun H5 s5 => ?_⟩
        refine bl_of (q H5 (s3.trans s5)) ?_
        unfold Kg65.Game.couldBe
        have : (List.map (·.2) ss).all (fun t => t.inPlay && (t.number == g.count || g.stones.any fun s => s.number == t.number)) = true := by
          rw [List.all_eq_true]
          intro t htm
          obtain ⟨p, mp, rfl⟩ := List.mem_map.mp htm
          obtain ⟨j, hj⟩ := List.mem_iff_getElem?.mp mp
          refine hc j p ?_ hj
          rw [List.length_map]
          exact (List.getElem?_eq_some_iff.mp hj).1
        rw [decide_eq_true hd, this]
        rfl
end
end Cm

namespace Cm
open PySem PySem.Spec PyProof.Rows L2
/-- o.f within a comprehension -/
theorem pe_fldK {X : Cx} (K : PySem.W.Frag) {e : Expr} {f : Str} {pos : Pos} {ta : TE} (hK : X.K = K) (he : PE X e ta) (hb : attributeBase e f X.env (eval e X.env) = eval e X.env) : PE X (.Attribute e f pos) (tFld K ta f) := by
  subst hK
  exact pe_fld he hb
theorem putK_length (kvs : List (Key × V)) (k : Key) (v : V) : (putK kvs k v).length ≤ kvs.length + 1 := by
  unfold putK
  split
  · rw [List.length_map]
    omega
  · rw [List.length_append]
    exact Nat.le_refl _
theorem fmod2 (n : Nat) : ((n : Int).fmod 2) = ((n % 2 : Nat) : Int) := by
  rw [Int.fmod_eq_emod_of_nonneg _ (by decide)]
  rfl
theorem side_ne (g : Game) (h : g.hammer ≤ 1) (a b : Nat) : (g.sideOf a != g.sideOf b) = decide (a % 2 ≠ b % 2) := by
  unfold Kg65.Game.sideOf
  rw [Bool.eq_iff_iff, bne_iff_ne, decide_eq_true_iff]
  have h1 := Nat.mod_lt a (by decide : 2 > 0)
  have h2 := Nat.mod_lt b (by decide : 2 > 0)
  by_cases ca : a % 2 = 1
  · by_cases cb : b % 2 = 1
    · rw [if_pos ca, if_pos cb, ca, cb]
      simp
    · rw [if_pos ca, if_neg cb]
      omega
  · by_cases cb : b % 2 = 1
    · rw [if_neg ca, if_pos cb]
      omega
    · rw [if_neg ca, if_neg cb]
      omega
theorem breaks_is (g : Game) (now : List Stone) (h : g.hammer ≤ 1) : g.breaks now = (decide (g.count < 5) && (g.stones.filter fun s => decide (s.number % 2 ≠ g.count % 2)).any fun s => moved s (now.find? fun t => t.number == s.number)) := by
  rw [List.any_filter]
  unfold Kg65.Game.breaks
  refine congrArg _ (congrArg (List.any g.stones) (funext fun s => ?_))
  rw [side_ne g h]
  rfl
def spBreaks (CM : Addr) : Sp := fun vs H Q _ => ∃ (m l : Addr) (g : Game) (B : Hp) (N : Nat) (qs : List (Addr × Stone)), vs = [.ref m, .ref l] ∧ MatchAt CM B H m g ∧ Fit N g ∧ N ≤ 1000 ∧
  StonesAt H l qs ∧ Nears qs ∧ qs.length ≤ 20 ∧ ((qs.map (·.2)).map Kg65.Stone.number).Nodup ∧ ∀ H' : Hp, Same H H' → Q (.bl (g.breaks (qs.map (·.2)))) H'
section
variable {P : Program} {w : World} {K : PySem.W.Frag} {mg : Str → Option Value} {base : Heap} {CM CL AD : Addr}
theorem ok_breaks {f : Addr} {fd : FuncData} (F : Fun K "breaks_rule_of_guards" "Match.breaks_rule_of_guards" s_Match_breaks_rule_of_guards f fd) (T : Txt K mg CM CL AD)
    (D_is_guard_moved : DefOk P w K mg base "is_guard_moved" 4 ["before", "after"] spMoved) : FnOk P w K mg base CX0 5 f fd ["self", "stones"] (spBreaks CM) := by
  refine F.ok sc_Match_breaks_rule_of_guards (fun vs H Q E h => ?_) (fun cdv A outer s H vs Q E hr h => ?_)
  · obtain ⟨m, l, g, B, N, qs, rfl, _⟩ := h
    rfl
  · obtain ⟨m, l, g, B, N, ss, rfl, ⟨dx, sl, el, ll, qs, ps, M⟩, FT, hN, hS, nr, hz, hd, q⟩ := h
    refine ⟨_, (pss_cons (ps_if (pt_cmpR op_ge (pe_fld (pv 0) rfl) (pe_gi T.gGUARDED_DELIVERIES rfl) (nomark _))
          (pss_one (ps_ret pe_bl))
          pss_nil)
        (pss_cons (ps_set (i := 2) sc_Match_breaks_rule_of_guards.nd rfl (Or.inr rfl) pe_dnewK)
        (pss_cons (ps_for PassesOwn.never rfl (pi_list (pv 1)) (pg_name (i := 3) sc_Match_breaks_rule_of_guards.nd rfl (Or.inl rfl))
          (pss_one (ps_dput (by exact hu_of hr) (pv 2) (pe_ix (r := rIxT K) ix_tup (pv 3) pe_int (fun _ _ => rfl)) (pv 3) rfl)))
        (pss_cons (ps_setLc (i := 4) (own := [("stone", 3)]) (g := gName 3) (by rfl) sc_Match_breaks_rule_of_guards.nd rfl rfl (sw_true rfl rfl rfl (by decide +kernel)) (pi_list (pe_fld (pv 0) rfl)) (blkOk_by (N := N_Match_breaks_rule_of_guards) (sc := defScope s_Match_breaks_rule_of_guards) (by decide +kernel)) (fun _ _ _ _ _ => pg_name (i := 3) sc_Match_breaks_rule_of_guards.nd rfl (Or.inl rfl)) (fun _ _ _ _ _ => (pts_one (pt_cmpR op_ne (pe_op op_modN (pe_ix (r := rIxT K) ix_tup (pv 3) pe_int (fun _ _ => rfl)) pe_int) (pe_op op_modN (pe_fldK K rfl (pv 0) rfl) pe_int) (nomark _)))) (fun _ _ _ _ _ => (pv 3)))
        (pss_one (ps_ret (pe_callB (cr_any rfl) (by rfl) T.nany (by decide +kernel) (pa_cons (pe_lc (own := [("stone", 3)]) (g := gName 3) (tt := tYes) (by rfl) sc_Match_breaks_rule_of_guards.nd (pi_list (pv 4)) (blkOk_by (N := N_Match_breaks_rule_of_guards) (sc := defScope s_Match_breaks_rule_of_guards) (by decide +kernel)) (fun _ _ _ _ _ => pg_name (i := 3) sc_Match_breaks_rule_of_guards.nd rfl (Or.inl rfl)) (fun _ _ _ _ _ => pts_nil) (fun _ _ _ _ _ => (pe_callD D_is_guard_moved (by exact hr.mono (by decide)) (by rfl) (pa_cons (pv 3) (pa_cons (pe_dget1 (by exact hu_of hr) (pv 2) (pe_ix (r := rIxT K) ix_tup (pv 3) pe_int (fun _ _ => rfl)) ⟨rfl, rfl, rfl, rfl⟩) pa_nil))))) pa_nil)))))))), ?_⟩
    refine ⟨_, rfl, m, CM, dx, _, _, rfl, M.ins, T.clM, T.aDelivered, lk_delivered, _, _, rfl, rfl, _, rfl, ite2 (fun c => ?_) (fun c => ?_)⟩
    · have c : (5 : Int) ≤ ((g.count : Nat) : Int) := of_decide_eq_true c
      refine bl_of (q H (Same.refl H)) ?_
      rw [breaks_is g _ FT.ham, decide_eq_false (by omega)]
      rfl
    · have c : g.count < 5 := Nat.lt_of_not_le fun z => c (decide_eq_true (by show (5 : Int) ≤ ((g.count : Nat) : Int); omega))
      -- after = {}
      intro d nd
      have s0 : Same H _ := same_upd (o := .dK []) nd
      refine ⟨_, rfl, l, rfl, ⟨_, SqL.of (s0 _ _ hS.lst)⟩, for_list (fun i σ H' => ∃ v kvs, σ = [some (.ref m), some (.ref l), some (.ref d), v, none] ∧ H' = upd H d (.dK kvs) ∧ kvs.length ≤ i ∧
        (∀ (j : Nat) (p : Addr × Stone), j < i → ss[j]? = some p → valV kvs (Sum.inl ((p.2.number : Nat) : Int)) = some (.ref p.1)) ∧
        ∀ n : Nat, (∀ (j : Nat) (p : Addr × Stone), j < i → ss[j]? = some p → p.2.number ≠ n) → valV kvs (Sum.inl ((n : Nat) : Int)) = none)
        ⟨none, [], rfl, rfl, Nat.le_refl _, fun _ _ h => absurd h (Nat.not_lt_zero _), fun _ _ => rfl⟩ (fun i σ H' _ ⟨_, _, _, e, _⟩ => e ▸ SqL.of (same_upd nd _ _ hS.lst)) ?_ ?_⟩
      · rintro i x σ H1 hi ⟨v, kvs, rfl, rfl, hk, h1, h2⟩
        obtain ⟨p, hp, rfl⟩ := map_at hi
        have mp := List.mem_of_getElem? hp
        have ht := same_upd (o := .dK kvs) nd _ _ (hS.tup p mp)
        have li := (List.getElem?_eq_some_iff.mp hp).1
        refine ⟨_, rfl, _, rfl, _, rfl, p.1, _, 0, _, rfl, rfl, SqT.of ht, at0 _, d, _, rfl, DPut.k (k := Sum.inl ((p.2.number : Nat) : Int)) upd_same (Nat.lt_of_le_of_lt (m := 20) (by omega) (by decide)), ?_⟩
        refine ⟨some (.ref p.1), putK kvs (Sum.inl ((p.2.number : Nat) : Int)) (.ref p.1), rfl, upd_upd, ?_, fun j r hj hr => ?_, fun n hn => ?_⟩
        · have := putK_length kvs (Sum.inl ((p.2.number : Nat) : Int)) (.ref p.1)
          omega
        · rw [valV_put]
          by_cases e : j = i
          · subst e
            rw [hp] at hr
            cases hr
            rw [if_pos rfl]
          · have : ¬ (Sum.inl ((r.2.number : Nat) : Int) : Key) = Sum.inl ((p.2.number : Nat) : Int) := fun z => by
              have z := Int.ofNat.inj (Sum.inl.inj z)
              have ej : ((ss.map (·.2)).map Kg65.Stone.number)[j]? = some r.2.number := by
                rw [List.getElem?_map, List.getElem?_map, hr]
                rfl
              have ei : ((ss.map (·.2)).map Kg65.Stone.number)[i]? = some r.2.number := by
                rw [List.getElem?_map, List.getElem?_map, hp, z]
                rfl
              exact e (nd_ix hd ej ei)
            rw [if_neg this]
            exact h1 j r (by omega) hr
        · have : ¬ (Sum.inl ((n : Nat) : Int) : Key) = Sum.inl ((p.2.number : Nat) : Int) := fun z => hn i p (by omega) hp (Int.ofNat.inj (Sum.inl.inj z)).symm
          rw [valV_put, if_neg this]
          exact h2 n fun j r hj hr => hn j r (by omega) hr
      · rintro σ H1 ⟨v, kvs, rfl, rfl, hk, h1, h2⟩
        rw [List.length_map] at h1 h2
        have get : ∀ n : Nat, (∃ p ∈ ss, (ss.map (·.2)).find? (fun t => t.number == n) = some p.2 ∧ valV kvs (Sum.inl ((n : Nat) : Int)) = some (.ref p.1)) ∨
            ((ss.map (·.2)).find? (fun t => t.number == n) = none ∧ valV kvs (Sum.inl ((n : Nat) : Int)) = none) := by
          intro n
          cases hf : (ss.map (·.2)).find? (fun t => t.number == n) with
          | none =>
            refine .inr ⟨rfl, h2 n fun j r hj hr z => ?_⟩
            have := List.find?_eq_none.mp hf r.2 (List.mem_map.mpr ⟨r, List.mem_of_getElem? hr, rfl⟩)
            exact this (beq_iff_eq.mpr z)
          | some t =>
            obtain ⟨p, mp, rfl⟩ := List.mem_map.mp (List.mem_of_find?_eq_some hf)
            have en : (p.2.number == n) = true := List.find?_some (p := fun t : Stone => t.number == n) hf
            have en : p.2.number = n := beq_iff_eq.mp en
            obtain ⟨j, hj⟩ := List.mem_iff_getElem?.mp mp
            refine .inl ⟨p, mp, rfl, ?_⟩
            rw [← en]
            exact h1 j p (List.getElem?_eq_some_iff.mp hj).1 hj
        have s1 : Same H _ := same_upd (o := .dK kvs) nd
        have eD := upd_same (H := H) (a := d) (o := .dK kvs)
        generalize upd H d (.dK kvs) = H1 at s1 eD ⊢
        have M1 := M.same s1
        -- others
        refine ⟨_, rfl, m, CM, dx, _, _, rfl, M1.ins, T.clM, T.aLying, lk_lying, ll, rfl, ⟨_, SqL.of M1.stones.lst⟩, fun b hb =>
          lc_pure ps (fun p => V.ref p.1) (fun p => decide (p.2.number % 2 ≠ g.count % 2)) (fun p => .ref p.1) (SqL.of M1.stones.lst) hb ?_ ?_ ?_⟩
        · exact Nat.lt_of_le_of_lt (M.plen FT) (by decide)
        · intro p H2 R N hp s2 hR hN
          have M2 := M1.same s2
          have ht := M2.stones.tup p hp
          refine ⟨rfl, ?_⟩
          refine ⟨_, rfl, p.1, _, 0, _, rfl, rfl, SqT.of ht, at0 _, _, _, rfl, rfl, (by show (2 : Int) ≠ 0; decide), _, rfl, m, CM, dx, _, _, rfl, M2.ins, T.clM, T.aDelivered, lk_delivered, _, _, rfl, rfl, (by show (2 : Int) ≠ 0; decide), rfl, _, rfl, ?_⟩
          have eb : (!decide (V.int (((p.2.number : Nat) : Int).fmod 2) = V.int (((g.count : Nat) : Int).fmod 2))) = decide (p.2.number % 2 ≠ g.count % 2) := by
            rw [fmod2, fmod2]
            by_cases e : p.2.number % 2 = g.count % 2
            · rw [e, decide_eq_true rfl]
              exact (decide_eq_false (fun z => z rfl)).symm
            · have : ¬ (V.int ((p.2.number % 2 : Nat) : Int) = V.int ((g.count % 2 : Nat) : Int)) := fun z => e (Int.ofNat.inj (V.int.inj z))
              rw [decide_eq_false this, decide_eq_true e]
              rfl
          refine ite2 (fun e => ?_) (fun e => ?_)
          · exact ⟨_, rfl, hR (eb.symm.trans e)⟩
          · exact hN (eb.symm.trans (Bool.eq_false_iff.mpr e))
        have s2 : Same H1 _ := same_upd (o := .lst ((ps.filter fun p => decide (p.2.number % 2 ≠ g.count % 2)).map fun p => V.ref p.1)) hb
        have eO := upd_same (H := H1) (a := b) (o := .lst ((ps.filter fun p => decide (p.2.number % 2 ≠ g.count % 2)).map fun p => V.ref p.1))
        generalize upd H1 b (.lst ((ps.filter fun p => decide (p.2.number % 2 ≠ g.count % 2)).map fun p => V.ref p.1)) = H2 at s2 eO ⊢
        have M2 := M1.same s2
        -- any([..])
        refine ⟨_, rfl, b, rfl, ⟨_, SqL.of eO⟩, fun r hr =>
          lc_pure (ps.filter fun p => decide (p.2.number % 2 ≠ g.count % 2)) (fun p => V.ref p.1) (fun _ => true) (fun p => .bl (moved p.2 ((ss.map (·.2)).find? fun t => t.number == p.2.number))) (SqL.of eO) hr ?_ ?_ ?_⟩
        · refine Nat.lt_of_le_of_lt (Nat.le_trans (List.length_filter_le _ _) (M.plen FT)) (by decide)
        · intro p H3 R N hp s3 hR hN
          have mp := (List.mem_filter.mp hp).1
          have s12 := (s1.trans s2).trans s3
          have ht := (M2.same s3).stones.tup p mp
          refine ⟨rfl, ?_⟩
          refine iteT (B := N H3) ?_
          refine ⟨_, rfl, _, rfl, d, rfl, .inl ⟨kvs, .inl (s3 _ _ (s2 _ _ eD))⟩, _, rfl, p.1, _, 0, _, rfl, rfl, SqT.of ht, at0 _, _, DGet.k (k := Sum.inl ((p.2.number : Nat) : Int)) (s3 _ _ (s2 _ _ eD)), ?_⟩
          rcases get p.2.number with ⟨r, mr, e1, e2⟩ | ⟨e1, e2⟩
          · rw [e2]
            exact ⟨p.1, p.2, _, _, rfl, ht, M.nears FT p mp, .inr ⟨r.1, r.2, rfl, e1, s12 _ _ (hS.tup r mr), nr r mr⟩, hR rfl⟩
          · rw [e2]
            exact ⟨p.1, p.2, _, _, rfl, ht, M.nears FT p mp, .inl ⟨rfl, e1⟩, hR rfl⟩
        · refine ⟨r, ((ps.filter fun p => decide (p.2.number % 2 ≠ g.count % 2)).map fun p => moved p.2 ((ss.map (·.2)).find? fun t => t.number == p.2.number)), rfl, SqL.of ?_, ?_⟩
          · rw [List.filter_eq_self.mpr (fun _ _ => rfl), List.map_map]
            exact upd_same
          · refine bl_of (q _ ((s1.trans s2).trans (same_upd hr))) ?_
            rw [breaks_is g _ FT.ham, decide_eq_true c, Bool.true_and, ← M.eps, List.filter_map, List.any_map, List.any_map]
            rfl
end
end Cm

namespace Cm
open PySem PySem.Spec PyProof.Rows L2
theorem putF_new {f : Str} {v : V} : ∀ (r : List (Str × V)) (ks : List Str), r.map (·.1) = ks → ks.all (fun g => !decide (g = f)) = true → putF f v r = r ++ [(f, v)]
  | [], _, _, _ => rfl
  | (g, x) :: r, _, rfl, h => by
    rw [List.map_cons, List.all_cons, Bool.and_eq_true] at h
    have : ¬ g = f := fun z => by
      have := h.1
      rw [decide_eq_true z] at this
      cases this
    rw [put_past this, putF_new r _ rfl h.2]
    rfl
theorem step_m {B H : Hp} {m CM dx : Addr} {r r' : List (Str × V)} (s : Same B H) (b : B m = none) (e : H m = some (.ins CM dx r)) :
    Same B (upd H m (.ins CM dx r')) ∧ upd H m (.ins CM dx r') m = some (.ins CM dx r') ∧ ∀ p xs, H p = some (.lst xs) → upd H m (.ins CM dx r') p = some (.lst xs) :=
  ⟨same_mut s b, upd_same, fun p xs h => by
    rw [upd_ne (ne_of h e (by intro z; cases z))]
    exact h⟩
theorem step_new {B H : Hp} {p : Addr} {o : HO} (s : Same B H) (n : H p = none) : Same B (upd H p o) ∧ upd H p o p = some o ∧ Same H (upd H p o) ∧ B p = none :=
  ⟨s.trans (same_upd n), upd_same, same_upd n, s.free n⟩
/-- a match that begins -/
def fresh (en ha : Nat) (se : Int) : Game := ⟨en, ha, 0, [], [], se, se, none⟩
def spInitM (CM : Addr) : Sp := fun vs H Q _ => ∃ (m dx : Addr) (en ha : Nat) (se : Int) (B : Hp), vs = [.ref m, .int en, .int ha, .int se] ∧ H m = some (.ins CM dx []) ∧ Same B H ∧ B m = none ∧
  ∀ H' : Hp, Same B H' → MatchAt CM B H' m (fresh en ha se) → Q .non H'
def spLose (CM : Addr) : Sp := fun vs H Q _ => ∃ (m : Addr) (g : Game) (B : Hp) (side : Nat), vs = [.ref m, .int side] ∧ side ≤ 1 ∧ Same B H ∧ MatchAt CM B H m g ∧
  ∀ H' : Hp, Same B H' → MatchAt CM B H' m { g with won := some (1 - side) } → Q .non H'
def timeH (g : Game) (side : Nat) (t : Int) : Game := if side = 0 then { g with timeA := max 0 (g.timeA - t) } else { g with timeB := max 0 (g.timeB - t) }
def leftOf (g : Game) (side : Nat) (t : Int) : Int := if side = 0 then (timeH g side t).timeA else (timeH g side t).timeB
def timeG (g : Game) (side : Nat) (t : Int) : Game := if leftOf g side t ≤ 0 then { timeH g side t with won := some (1 - side) } else timeH g side t
def spTime (CM : Addr) : Sp := fun vs H Q _ => ∃ (m : Addr) (g : Game) (B : Hp) (side : Nat) (t : Int), vs = [.ref m, .int side, .int t] ∧ side ≤ 1 ∧ Same B H ∧ MatchAt CM B H m g ∧
  ∀ H' : Hp, Same B H' → MatchAt CM B H' m (timeG g side t) → Q (.int (leftOf g side t)) H'
def settleG (g : Game) : Game := if g.total 0 = g.total 1 then { g with timeA := g.timeA + 270, timeB := g.timeB + 270 } else { g with won := some (if g.total 1 < g.total 0 then 0 else 1) }
def spSettle (CM : Addr) : Sp := fun vs H Q _ => ∃ (m : Addr) (g : Game) (B : Hp) (N : Nat), vs = [.ref m] ∧ Fit N g ∧ N ≤ 1000 ∧ Same B H ∧ MatchAt CM B H m g ∧
  ∀ H' : Hp, Same B H' → MatchAt CM B H' m (settleG g) → Q .non H'
section
variable {P : Program} {w : World} {K : PySem.W.Frag} {mg : Str → Option Value} {base : Heap} {CM CL AD : Addr}
theorem ok_initM {f : Addr} {fd : FuncData} (F : Fun K "__init__" "Match.__init__" s_Match___init__ f fd) (T : Txt K mg CM CL AD) : FnOk P w K mg base CX0 1 f fd ["self", "ends", "hammer", "seconds"] (spInitM CM) := by
  refine F.ok sc_Match___init__ (fun vs H Q E h => ?_) (fun cdv A outer s H vs Q E hr h => ?_)
  · obtain ⟨m, dx, en, ha, se, B, rfl, _⟩ := h
    rfl
  · obtain ⟨m, dx, en, ha, se, B, rfl, hm, sB, bm, q⟩ := h
    refine ⟨_, (pss_cons (ps_fld (pv 0) (pv 1) rfl)
        (pss_cons (ps_fld (pv 0) (pv 2) rfl)
        (pss_cons (ps_fld (pv 0) (pe_lst (pa_cons (pv 3) (pa_cons (pv 3) pa_nil))) rfl)
        (pss_cons (ps_fld (pv 0) (pe_lst pa_nil) rfl)
        (pss_cons (ps_fld (pv 0) pe_int rfl)
        (pss_cons (ps_fld (pv 0) (pe_lst pa_nil) rfl)
        (pss_one (ps_fld (pv 0) (pe_gi T.gNOBODY rfl) rfl)))))))), ?_⟩
    refine ⟨_, rfl, _, rfl, m, CM, dx, _, rfl, hm, T.clM, T.aEnds, (by show 0 < 1000; decide), ?_⟩
    rw [putF_new _ [] rfl (by decide +kernel)]
    refine ⟨_, rfl, _, rfl, m, CM, dx, _, rfl, upd_same, T.clM, T.aHammer, (by show 1 < 1000; decide), ?_⟩
    rw [upd_upd, putF_new _ ["ends"] rfl (by decide +kernel)]
    obtain ⟨s1, e1, _⟩ := step_m (r' := ([] ++ [(("ends" : Str), V.int en)]) ++ [(("hammer" : Str), V.int ha)]) sB bm hm
    generalize upd H m (.ins CM dx (([] ++ [(("ends" : Str), V.int en)]) ++ [(("hammer" : Str), V.int ha)])) = H1 at s1 e1 ⊢
    refine ⟨_, rfl, _, rfl, (by show 2 ≤ sizeLine; decide), fun sl nsl => ?_⟩
    obtain ⟨s2, f2, k2, bsl⟩ := step_new (o := .lst [V.int se, V.int se]) s1 nsl
    have e2 := k2 _ _ e1
    generalize upd H1 sl (.lst [V.int se, V.int se]) = H2 at s2 f2 k2 e2 ⊢
    refine ⟨_, rfl, m, CM, dx, _, rfl, e2, T.clM, T.aSeconds, (by show 2 < 1000; decide), ?_⟩
    rw [putF_new _ ["ends", "hammer"] rfl (by decide +kernel)]
    obtain ⟨s3, e3, k3⟩ := step_m (r' := (([] ++ [(("ends" : Str), V.int en)]) ++ [(("hammer" : Str), V.int ha)]) ++ [(("seconds_left" : Str), V.ref sl)]) s2 bm e2
    have f3 := k3 _ _ f2
    generalize upd H2 m (.ins CM dx ((([] ++ [(("ends" : Str), V.int en)]) ++ [(("hammer" : Str), V.int ha)]) ++ [(("seconds_left" : Str), V.ref sl)])) = H3 at s3 e3 f3 ⊢
    refine ⟨Nat.zero_le _, fun el nel => ?_⟩
    obtain ⟨s4, g4, k4, bel⟩ := step_new (o := .lst []) s3 nel
    have ne1 : sl ≠ el := ne_of_none f3 nel
    have e4 := k4 _ _ e3
    have f4 := k4 _ _ f3
    generalize upd H3 el (.lst []) = H4 at s4 g4 e4 f4 ⊢
    refine ⟨_, rfl, m, CM, dx, _, rfl, e4, T.clM, T.aEnded, (by show 3 < 1000; decide), ?_⟩
    rw [putF_new _ ["ends", "hammer", "seconds_left"] rfl (by decide +kernel)]
    obtain ⟨s5, e5, k5⟩ := step_m (r' := ((([] ++ [(("ends" : Str), V.int en)]) ++ [(("hammer" : Str), V.int ha)]) ++ [(("seconds_left" : Str), V.ref sl)]) ++ [(("ended" : Str), V.ref el)]) s4 bm e4
    have f5 := k5 _ _ f4
    have g5 := k5 _ _ g4
    generalize upd H4 m (.ins CM dx (((([] ++ [(("ends" : Str), V.int en)]) ++ [(("hammer" : Str), V.int ha)]) ++ [(("seconds_left" : Str), V.ref sl)]) ++ [(("ended" : Str), V.ref el)])) = H5 at s5 e5 f5 g5 ⊢
    refine ⟨_, rfl, m, CM, dx, _, rfl, e5, T.clM, T.aDelivered, (by show 4 < 1000; decide), ?_⟩
    rw [putF_new _ ["ends", "hammer", "seconds_left", "ended"] rfl (by decide +kernel)]
    obtain ⟨s6, e6, k6⟩ := step_m (r' := (((([] ++ [(("ends" : Str), V.int en)]) ++ [(("hammer" : Str), V.int ha)]) ++ [(("seconds_left" : Str), V.ref sl)]) ++ [(("ended" : Str), V.ref el)]) ++ [(("delivered" : Str), V.int 0)]) s5 bm e5
    have f6 := k6 _ _ f5
    have g6 := k6 _ _ g5
    generalize upd H5 m (.ins CM dx ((((([] ++ [(("ends" : Str), V.int en)]) ++ [(("hammer" : Str), V.int ha)]) ++ [(("seconds_left" : Str), V.ref sl)]) ++ [(("ended" : Str), V.ref el)]) ++ [(("delivered" : Str), V.int 0)])) = H6 at s6 e6 f6 g6 ⊢
    refine ⟨Nat.zero_le _, fun ll nll => ?_⟩
    obtain ⟨s7, l7, k7, bll⟩ := step_new (o := .lst []) s6 nll
    have ne2 : ll ≠ sl := (ne_of_none f6 nll).symm
    have ne3 : ll ≠ el := (ne_of_none g6 nll).symm
    have e7 := k7 _ _ e6
    have f7 := k7 _ _ f6
    have g7 := k7 _ _ g6
    generalize upd H6 ll (.lst []) = H7 at s7 l7 e7 f7 g7 ⊢
    refine ⟨_, rfl, m, CM, dx, _, rfl, e7, T.clM, T.aLying, (by show 5 < 1000; decide), ?_⟩
    rw [putF_new _ ["ends", "hammer", "seconds_left", "ended", "delivered"] rfl (by decide +kernel)]
    refine ⟨_, rfl, m, CM, dx, _, rfl, upd_same, T.clM, T.aWinner, (by show 6 < 1000; decide), ?_⟩
    rw [upd_upd, putF_new _ ["ends", "hammer", "seconds_left", "ended", "delivered", "lying"] rfl (by decide +kernel)]
    obtain ⟨s8, e8, k8⟩ := step_m (r' := mF en ha sl el 0 ll (-1)) s7 bm e7
    exact q _ s8 ⟨dx, sl, el, ll, [], [], e8, k8 _ _ f7, k8 _ _ g7, fun q hq => absurd hq List.not_mem_nil, ⟨k8 _ _ l7, fun p hp => absurd hp List.not_mem_nil⟩, rfl, rfl, bm, bsl, bel, bll, ne1, ne2, ne3⟩
theorem ok_lose {f : Addr} {fd : FuncData} (F : Fun K "lose" "Match.lose" s_Match_lose f fd) (T : Txt K mg CM CL AD) : FnOk P w K mg base CX0 1 f fd ["self", "side"] (spLose CM) := by
  refine F.ok sc_Match_lose (fun vs H Q E h => ?_) (fun cdv A outer s H vs Q E hr h => ?_)
  · obtain ⟨m, g, B, side, rfl, _⟩ := h
    rfl
  · obtain ⟨m, g, B, side, rfl, hs, sB, ⟨dx, sl, el, ll, qs, ps, M⟩, q⟩ := h
    refine ⟨_, (pss_one (ps_fld (pv 0) (pe_op op_sub pe_int (pv 1)) rfl)), ?_⟩
    refine ⟨_, rfl, _, _, rfl, rfl, _, rfl, m, CM, dx, _, rfl, M.ins, T.clM, T.aWinner, (by show 7 < 1000; decide), ?_⟩
    rw [put_winner]
    have e : (1 : Int) - ((side : Nat) : Int) = Kg65.opt (some (1 - side)) := by
      show _ = (((1 - side : Nat) : Int))
      omega
    show Q .non (upd H m (.ins CM dx (mF g.ends g.hammer sl el g.count ll (1 - ((side : Nat) : Int)))))
    rw [e]
    exact q _ (same_mut sB M.bm) ⟨dx, sl, el, ll, qs, ps, M.put { g with won := some (1 - side) } rfl rfl rfl rfl⟩
theorem ok_take_time {f : Addr} {fd : FuncData} (F : Fun K "take_time" "Match.take_time" s_Match_take_time f fd) (T : Txt K mg CM CL AD)
    (M_lose : MethOk P w K mg base CM "lose" 1 ["self", "side"] (spLose CM)) : FnOk P w K mg base CX0 2 f fd ["self", "side", "seconds"] (spTime CM) := by
  refine F.ok sc_Match_take_time (fun vs H Q E h => ?_) (fun cdv A outer s H vs Q E hr h => ?_)
  · obtain ⟨m, g, B, side, t, rfl, _⟩ := h
    rfl
  · obtain ⟨m, g, B, side, t, rfl, hs, sB, ⟨dx, sl, el, ll, qs, ps, M⟩, q⟩ := h
    refine ⟨_, (pss_cons (ps_set (i := 3) sc_Match_take_time.nd rfl (Or.inl rfl) (pe_callB (call_max2 rfl) (by rfl) T.nmax (by decide +kernel) (pa_cons pe_int (pa_cons (pe_op op_sub (pe_ix (r := rIxL K) ix_list (pe_fld (pv 0) rfl) (pv 1) (fun _ _ => rfl)) (pv 2)) pa_nil))))
        (pss_cons (ps_asg (pv 3) (pg_sub (pe_fld (pv 0) rfl) (pv 1) set_list))
        (pss_cons (ps_if (pt_cmpR op_eq (pv 3) pe_int (nomark _))
          (pss_one (ps_expr (pe_methD (pv 0) T.clM M_lose (by exact hr.mono (by decide)) (pa_cons (pv 1) pa_nil))))
          pss_nil)
        (pss_one (ps_ret (pv 3)))))), ?_⟩
    have at_ : ([V.int g.timeA, V.int g.timeB] : List V)[side]? = some (.int (if side = 0 then g.timeA else g.timeB)) := by
      match side, hs with
      | 0, _ => rfl
      | 1, _ => rfl
    refine ⟨_, rfl, m, CM, dx, _, _, rfl, M.ins, T.clM, T.aSeconds, lk_seconds, _, rfl, sl, _, _, _, rfl, rfl, SqL.of M.secs, atI_nat (j := side) at_, _, rfl, _, _, rfl, rfl, _, _, rfl, ?_⟩
    have el_ : (if (if side = 0 then g.timeA else g.timeB) - t > 0 then (if side = 0 then g.timeA else g.timeB) - t else 0) = leftOf g side t := by
      unfold leftOf timeH
      match side, hs with
      | 0, _ =>
        show (if g.timeA - t > 0 then g.timeA - t else 0) = max 0 (g.timeA - t)
        omega
      | 1, _ =>
        show (if g.timeB - t > 0 then g.timeB - t else 0) = max 0 (g.timeB - t)
        omega
    rw [el_]
    refine ⟨_, rfl, _, rfl, m, CM, dx, _, _, rfl, M.ins, T.clM, T.aSeconds, lk_seconds, _, rfl, sl, _, _, side, rfl, rfl, M.secs, ?_, ?_⟩
    · match side, hs with
      | 0, _ => rfl
      | 1, _ => rfl
    · have es : ([V.int g.timeA, V.int g.timeB] : List V).set side (.int (leftOf g side t)) = [.int (timeH g side t).timeA, .int (timeH g side t).timeB] := by
        match side, hs with
        | 0, _ => rfl
        | 1, _ => rfl
      have eg : { g with timeA := (timeH g side t).timeA, timeB := (timeH g side t).timeB } = timeH g side t := by
        match side, hs with
        | 0, _ => rfl
        | 1, _ => rfl
      rw [es]
      have M2 := M.setSecs (timeH g side t).timeA (timeH g side t).timeB
      rw [eg] at M2
      have s2 := same_mut (o := .lst [.int (timeH g side t).timeA, .int (timeH g side t).timeB]) sB M.bsl
      generalize upd H sl (.lst [.int (timeH g side t).timeA, .int (timeH g side t).timeB]) = H2 at M2 s2 ⊢
      have h0 : 0 ≤ leftOf g side t := by
        rw [← el_]
        omega
      refine ⟨_, rfl, rfl, _, rfl, ite2 (fun c => ?_) (fun c => ?_)⟩
      · have c := V.int.inj (of_decide_eq_true c)
        have eu : timeG g side t = { timeH g side t with won := some (1 - side) } := if_pos (by omega)
        refine ⟨_, rfl, m, dx, _, rfl, M2.ins, mF_no (by decide +kernel), _, rfl, m, timeH g side t, B, side, rfl, hs, s2, ⟨dx, sl, el, ll, qs, ps, M2⟩, fun H3 s3 M3 => ?_⟩
        exact ⟨_, rfl, q H3 s3 (eu ▸ M3)⟩
      · have c : ¬ leftOf g side t = 0 := fun z => c (decide_eq_true (congrArg V.int z))
        have eu : timeG g side t = timeH g side t := if_neg (by omega)
        exact ⟨_, rfl, q H2 s2 (eu ▸ ⟨dx, sl, el, ll, qs, ps, M2⟩)⟩
theorem ok_settle {f : Addr} {fd : FuncData} (F : Fun K "settle" "Match.settle" s_Match_settle f fd) (T : Txt K mg CM CL AD)
    (M_points : MethOk P w K mg base CM "points" 1 ["self", "side"] (spPoints CM)) : FnOk P w K mg base CX0 2 f fd ["self"] (spSettle CM) := by
  refine F.ok sc_Match_settle (fun vs H Q E h => ?_) (fun cdv A outer s H vs Q E hr h => ?_)
  · obtain ⟨m, g, B, N, rfl, _⟩ := h
    rfl
  · obtain ⟨m, g, B, N, rfl, FT, hN, sB, ⟨dx, sl, el, ll, qs, ps, M⟩, q⟩ := h
    refine ⟨_, (pss_one (ps_if (pt_cmpR op_eq (pe_methD (pv 0) T.clM M_points (by exact hr.mono (by decide)) (pa_cons pe_int pa_nil)) (pe_methD (pv 0) T.clM M_points (by exact hr.mono (by decide)) (pa_cons pe_int pa_nil)) (nomark _))
          (pss_one (ps_fld (pv 0) (pe_lc (own := [("left", 1)]) (g := gName 1) (tt := tYes) (by rfl) sc_Match_settle.nd (pi_list (pe_fld (pv 0) rfl)) (blkOk_by (N := N_Match_settle) (sc := defScope s_Match_settle) (by decide +kernel)) (fun _ _ _ _ _ => pg_name (i := 1) sc_Match_settle.nd rfl (Or.inl rfl)) (fun _ _ _ _ _ => pts_nil) (fun _ _ _ _ _ => (pe_op op_add (pv 1) (pe_gi T.gSECONDS_MORE rfl)))) rfl))
          (pss_one (ps_if (pt_cmpR op_gt (pe_methD (pv 0) T.clM M_points (by exact hr.mono (by decide)) (pa_cons pe_int pa_nil)) (pe_methD (pv 0) T.clM M_points (by exact hr.mono (by decide)) (pa_cons pe_int pa_nil)) (nomark _))
            (pss_one (ps_fld (pv 0) pe_int rfl))
            (pss_one (ps_fld (pv 0) pe_int rfl)))))), ?_⟩
    refine ⟨_, rfl, m, dx, _, rfl, M.ins, mF_no (by decide +kernel), m, g, B, N, 0, rfl, by decide, ⟨dx, sl, el, ll, qs, ps, M⟩, FT, hN, fun H1 s1 => ?_⟩
    have M1 := M.same s1
    refine ⟨_, rfl, m, dx, _, rfl, M1.ins, mF_no (by decide +kernel), m, g, B, N, 1, rfl, by decide, ⟨dx, sl, el, ll, qs, ps, M1⟩, FT, hN, fun H2 s2 => ?_⟩
    have M2 := M1.same s2
    have sB2 := (sB.trans s1).trans s2
    refine ⟨rfl, _, rfl, ite2 (fun c => ?_) (fun c => ?_)⟩
    · have c := Int.ofNat.inj (V.int.inj (of_decide_eq_true c))
      have eu : settleG g = { g with timeA := g.timeA + 270, timeB := g.timeB + 270 } := if_pos c
      refine ⟨_, rfl, m, CM, dx, _, _, rfl, M2.ins, T.clM, T.aSeconds, lk_seconds, sl, rfl, ⟨_, SqL.of M2.secs⟩, fun D hD =>
        lc_pure [g.timeA, g.timeB] V.int (fun _ => true) (fun x => .int (x + 270)) (SqL.of M2.secs) hD (by show 2 < sizeLine; decide) ?_ ?_⟩
      · intro x H3 R N hx s3 hR hN
        refine ⟨rfl, ?_⟩
        refine iteT (B := N H3) ?_
        exact ⟨_, rfl, _, _, rfl, rfl, hR rfl⟩
      · have s3 : Same H2 _ := same_upd (o := .lst [.int (g.timeA + 270), .int (g.timeB + 270)]) hD
        have eD := upd_same (H := H2) (a := D) (o := .lst [.int (g.timeA + 270), .int (g.timeB + 270)])
        have M3 := M2.same s3
        have bD := sB2.free hD
        refine ⟨_, rfl, m, CM, dx, _, rfl, M3.ins, T.clM, T.aSeconds, (by show 7 < 1000; decide), ?_⟩
        rw [put_seconds]
        refine q _ (same_mut (sB2.trans s3) M.bm) (eu ▸ ⟨dx, D, el, ll, qs, ps, M3.putSecs eD bD (ne_of_none M2.ended hD).symm (ne_of_none M2.stones.lst hD)⟩)
    · have c : ¬ g.total 0 = g.total 1 := fun z => c (decide_eq_true (by rw [z]))
      have eu : settleG g = { g with won := some (if g.total 1 < g.total 0 then 0 else 1) } := if_neg c
      refine ⟨_, rfl, m, dx, _, rfl, M2.ins, mF_no (by decide +kernel), m, g, B, N, 0, rfl, by decide, ⟨dx, sl, el, ll, qs, ps, M2⟩, FT, hN, fun H3 s3 => ?_⟩
      have M3 := M2.same s3
      refine ⟨_, rfl, m, dx, _, rfl, M3.ins, mF_no (by decide +kernel), m, g, B, N, 1, rfl, by decide, ⟨dx, sl, el, ll, qs, ps, M3⟩, FT, hN, fun H4 s4 => ?_⟩
      have M4 := M3.same s4
      have sB4 := (sB2.trans s3).trans s4
      refine ⟨_, _, rfl, rfl, _, rfl, ite2 (fun d => ?_) (fun d => ?_)⟩
      · have d := Int.ofNat_lt.mp (of_decide_eq_true d)
        refine ⟨_, rfl, m, CM, dx, _, rfl, M4.ins, T.clM, T.aWinner, (by show 7 < 1000; decide), ?_⟩
        rw [put_winner]
        rw [if_pos d] at eu
        exact q _ (same_mut sB4 M.bm) (eu ▸ ⟨dx, sl, el, ll, qs, ps, M4.put { g with won := some 0 } rfl rfl rfl rfl⟩)
      · have d : ¬ g.total 1 < g.total 0 := fun z => d (decide_eq_true (Int.ofNat_lt.mpr z))
        refine ⟨_, rfl, m, CM, dx, _, rfl, M4.ins, T.clM, T.aWinner, (by show 7 < 1000; decide), ?_⟩
        rw [put_winner]
        rw [if_neg d] at eu
        exact q _ (same_mut sB4 M.bm) (eu ▸ ⟨dx, sl, el, ll, qs, ps, M4.put { g with won := some 1 } rfl rfl rfl rfl⟩)
end
end Cm

namespace Cm
open PySem PySem.Spec PyProof.Rows L2
/-- an end is over: all but what settle does -/
def overG (g : Game) (ha : Nat) : Game := { g with scores := g.scores ++ [(g.counts 0, g.counts 1)], count := 0, stones := [], hammer := ha }
def hamOf (g : Game) : Nat := if 0 < g.counts 0 then 1 else if 0 < g.counts 1 then 0 else g.hammer
theorem close_is (g : Game) : g.close = if (overG g (hamOf g)).scores.length < (overG g (hamOf g)).ends then overG g (hamOf g) else settleG (overG g (hamOf g)) := rfl
theorem hamOf_le (g : Game) (h : g.hammer ≤ 1) : hamOf g ≤ 1 := by
  unfold hamOf
  split
  · exact Nat.le_refl _
  · split
    · exact Nat.zero_le _
    · exact h
theorem Fit.over {N : Nat} {g : Game} (F : Fit N g) (ha : Nat) (h : ha ≤ 1) : Fit (N + 1) (overG g ha) := ⟨h, Nat.zero_le _, fun s hs => absurd hs List.not_mem_nil, by
  show (g.scores ++ [_]).length ≤ _
  rw [List.length_append]
  have := F.scl
  show _ + 1 ≤ _
  omega⟩
def spClose (CM : Addr) : Sp := fun vs H Q _ => ∃ (m : Addr) (g : Game) (B : Hp) (N : Nat), vs = [.ref m] ∧ Fit N g ∧ N < 1000 ∧ Same B H ∧ MatchAt CM B H m g ∧
  ∀ H' : Hp, Same B H' → MatchAt CM B H' m g.close → Q .non H'
/-- a delivery: the stones that are told stand at l, a list that the match doesn't hold -/
def spDeliver (CM : Addr) : Sp := fun vs H Q _ => ∃ (m l : Addr) (g : Game) (B : Hp) (N : Nat) (qs : List (Addr × Stone)), vs = [.ref m, .ref l] ∧ Fit N g ∧ N < 1000 ∧ Same B H ∧ MatchAt CM B H m g ∧
  StonesAt H l qs ∧ Nears qs ∧ qs.length ≤ 20 ∧ ((qs.map (·.2)).map Kg65.Stone.number).Nodup ∧ B l = none ∧
  (∀ dx sl el ll qs' ps', MatchIn CM B H m dx sl el ll g qs' ps' → l ≠ sl ∧ l ≠ el) ∧
  ∀ H' : Hp, Same B H' → MatchAt CM B H' m (g.deliver (qs.map (·.2))) → Q (.bl (g.breaks (qs.map (·.2)))) H'
section
variable {P : Program} {w : World} {K : PySem.W.Frag} {mg : Str → Option Value} {base : Heap} {CM CL AD : Addr}
theorem ok_close_end {f : Addr} {fd : FuncData} (F : Fun K "close_end" "Match.close_end" s_Match_close_end f fd) (T : Txt K mg CM CL AD)
    (D_end_points : DefOk P w K mg base "end_points" 4 ["stones", "hammer"] spEnd)
    (M_settle : MethOk P w K mg base CM "settle" 2 ["self"] (spSettle CM)) : FnOk P w K mg base CX0 5 f fd ["self"] (spClose CM) := by
  refine F.ok sc_Match_close_end (fun vs H Q E h => ?_) (fun cdv A outer s H vs Q E hr h => ?_)
  · obtain ⟨m, g, B, N, rfl, _⟩ := h
    rfl
  · obtain ⟨m, g, B, N, rfl, FT, hN, sB, ⟨dx, sl, el, ll, qs, ps, M⟩, q⟩ := h
    refine ⟨_, (pss_cons (ps_set (i := 1) sc_Match_close_end.nd rfl (Or.inl rfl) (pe_callD D_end_points (by exact hr.mono (by decide)) (by rfl) (pa_cons (pe_fld (pv 0) rfl) (pa_cons (pe_fld (pv 0) rfl) pa_nil))))
        (pss_cons (ps_expr (pe_bm PySem.F.plainAttrs_list PySem.F.slot_list_append PySem.F.type_list_append mt_append (pe_fld (pv 0) rfl) (pa_cons (pv 1) pa_nil)))
        (pss_cons (ps_fld (pv 0) (pe_lst pa_nil) rfl)
        (pss_cons (ps_fld (pv 0) pe_int rfl)
        (pss_cons (ps_if (pt_cmpR op_gt (pe_ix (r := rIxT K) ix_tup (pv 1) pe_int (fun _ _ => rfl)) pe_int (nomark _))
          (pss_one (ps_fld (pv 0) pe_int rfl))
          (pss_one (ps_if (pt_cmpR op_gt (pe_ix (r := rIxT K) ix_tup (pv 1) pe_int (fun _ _ => rfl)) pe_int (nomark _))
            (pss_one (ps_fld (pv 0) pe_int rfl))
            pss_nil)))
        (pss_one (ps_if (pt_cmpR op_ge (pe_callB call_len_seq (by rfl) T.nlen PySem.boot_len (pa_cons (pe_fld (pv 0) rfl) pa_nil)) (pe_fld (pv 0) rfl) (nomark _))
          (pss_one (ps_expr (pe_meth0D (pv 0) T.clM M_settle (by exact hr.mono (by decide)))))
          pss_nil))))))), ?_⟩
    refine ⟨_, rfl, m, CM, dx, _, _, rfl, M.ins, T.clM, T.aLying, lk_lying, _, rfl, m, CM, dx, _, _, rfl, M.ins, T.clM, T.aHammer, lk_hammer,
      ll, ps, g, rfl, M.stones, M.nears FT, M.plen FT, M.eps, FT.ham, fun H1 p s1 np hp => ?_⟩
    have M1 := M.same s1
    have sB1 := sB.trans s1
    refine ⟨_, rfl, m, CM, dx, _, _, rfl, M1.ins, T.clM, T.aEnded, lk_ended, .inl ⟨rfl, _, SqL.of M1.ended⟩, _, rfl, el, _, _, rfl, rfl, M1.ended, ?_, ?_⟩
    · rw [List.length_map, M1.qlen]
      exact Nat.lt_of_le_of_lt FT.scl (small1000 (Nat.le_of_lt hN))
    have M2 := M1.addEnd hp
    have s2 := same_mut (o := .lst ((qs.map fun q => V.ref q.1) ++ [.ref p])) sB1 M.bel
    have hp2 : upd H1 el (.lst ((qs.map fun q => V.ref q.1) ++ [.ref p])) p = _ := (upd_ne (ne_of hp M1.ended (by intro z; cases z))).trans hp
    generalize upd H1 el (.lst ((qs.map fun q => V.ref q.1) ++ [.ref p])) = H2 at M2 s2 hp2 ⊢
    refine ⟨Nat.zero_le _, fun l nl => ?_⟩
    have s3' : Same H2 _ := same_upd (o := .lst []) nl
    have M3 := M2.same s3'
    have hp3 := s3' _ _ hp2
    have S3 : StonesAt (upd H2 l (.lst [])) l [] := ⟨upd_same, fun p hp => absurd hp List.not_mem_nil⟩
    have s3 := s2.trans s3'
    have bl := s2.free nl
    have n1 : l ≠ sl := (ne_of_none M2.secs nl).symm
    have n2 : l ≠ el := (ne_of_none M2.ended nl).symm
    generalize upd H2 l (.lst []) = H3 at M3 S3 s3 hp3 ⊢
    refine ⟨_, rfl, m, CM, dx, _, rfl, M3.ins, T.clM, T.aLying, (by show 7 < 1000; decide), ?_⟩
    rw [put_lying]
    have M4 := M3.putLying S3 bl n1 n2
    have s4 := same_mut (o := .ins CM dx (mF g.ends g.hammer sl el g.count l (Kg65.opt g.won))) s3 M.bm
    have hp4 : upd H3 m (.ins CM dx (mF g.ends g.hammer sl el g.count l (Kg65.opt g.won))) p = _ := (upd_ne (ne_of hp3 M3.ins (by intro z; cases z))).trans hp3
    have M4' : MatchIn CM B (upd H3 m (.ins CM dx (mF g.ends g.hammer sl el g.count l (Kg65.opt g.won)))) m dx sl el l { g with scores := g.scores ++ [(g.counts 0, g.counts 1)], stones := [] } (qs ++ [(p, (g.counts 0, g.counts 1))]) [] := M4
    have i4 : upd H3 m (.ins CM dx (mF g.ends g.hammer sl el g.count l (Kg65.opt g.won))) m = some (.ins CM dx (mF g.ends g.hammer sl el g.count l (Kg65.opt g.won))) := upd_same
    clear M4
    generalize upd H3 m (.ins CM dx (mF g.ends g.hammer sl el g.count l (Kg65.opt g.won))) = H4 at M4' s4 hp4 i4 ⊢
    refine ⟨_, rfl, m, CM, dx, _, rfl, i4, T.clM, T.aDelivered, (by show 7 < 1000; decide), ?_⟩
    rw [put_delivered]
    have M5 : MatchIn CM B (upd H4 m (.ins CM dx (mF g.ends g.hammer sl el 0 l (Kg65.opt g.won)))) m dx sl el l (overG g g.hammer) (qs ++ [(p, (g.counts 0, g.counts 1))]) [] :=
      M4'.put (overG g g.hammer) rfl rfl rfl rfl
    have s5 := same_mut (o := .ins CM dx (mF g.ends g.hammer sl el 0 l (Kg65.opt g.won))) s4 M.bm
    have hp5 : upd H4 m (.ins CM dx (mF g.ends g.hammer sl el 0 l (Kg65.opt g.won))) p = _ := (upd_ne (ne_of hp4 i4 (by intro z; cases z))).trans hp4
    have i5 : upd H4 m (.ins CM dx (mF g.ends g.hammer sl el 0 l (Kg65.opt g.won))) m = some (.ins CM dx (mF g.ends g.hammer sl el 0 l (Kg65.opt g.won))) := upd_same
    generalize upd H4 m (.ins CM dx (mF g.ends g.hammer sl el 0 l (Kg65.opt g.won))) = H5 at M5 s5 hp5 i5 ⊢
    refine ⟨_, rfl, p, _, 0, _, rfl, rfl, SqT.of hp5, atI_nat (j := 0) rfl, _, _, rfl, rfl, _, rfl, ite2 (fun c => ?_) (fun c => ?_)⟩
    · have c : 0 < g.counts 0 := Int.ofNat_lt.mp (of_decide_eq_true c)
      have eh : hamOf g = 1 := if_pos c
      refine ⟨_, rfl, m, CM, dx, _, rfl, i5, T.clM, T.aHammer, (by show 7 < 1000; decide), ?_⟩
      rw [put_hammer]
      have M6 : MatchIn CM B (upd H5 m (.ins CM dx (mF g.ends 1 sl el 0 l (Kg65.opt g.won)))) m dx sl el l (overG g 1) (qs ++ [(p, (g.counts 0, g.counts 1))]) [] := M5.put (overG g 1) rfl rfl rfl rfl
      have s6 := same_mut (o := .ins CM dx (mF g.ends 1 sl el 0 l (Kg65.opt g.won))) s5 M.bm
      generalize upd H5 m (.ins CM dx (mF g.ends 1 sl el 0 l (Kg65.opt g.won))) = H6 at M6 s6 ⊢
      have el_ : (((qs ++ [(p, (g.counts 0, g.counts 1))]).map fun q => V.ref q.1).length : Int) = ((overG g 1).scores.length : Nat) := by rw [List.length_map, M6.qlen]
      have ec := close_is g
      rw [eh] at ec
      refine ⟨_, rfl, m, CM, dx, _, _, rfl, M6.ins, T.clM, T.aEnded, lk_ended, el, _, rfl, .inl (SqL.of M6.ended), _, rfl, m, CM, dx, _, _, rfl, M6.ins, T.clM, T.aEnds, lk_ends, _, _, rfl, rfl, _, rfl, ?_⟩
      rw [el_]
      refine ite2 (fun e => ?_) (fun e => ?_)
      · have e : ¬ (overG g 1).scores.length < (overG g 1).ends := Nat.not_lt.mpr (Int.ofNat_le.mp (of_decide_eq_true e))
        rw [if_neg e] at ec
        refine ⟨_, rfl, m, dx, _, rfl, M6.ins, mF_no (by decide +kernel), m, overG g 1, B, N + 1, rfl, FT.over _ (eh ▸ hamOf_le g FT.ham), by omega, s6, ⟨dx, sl, el, l, _, _, M6⟩, fun H7 s7 M7 => ?_⟩
        exact q H7 s7 (ec ▸ M7)
      · have e : (overG g 1).scores.length < (overG g 1).ends := Nat.lt_of_not_le fun z => e (decide_eq_true (Int.ofNat_le.mpr z))
        rw [if_pos e] at ec
        exact q _ s6 (ec ▸ ⟨dx, sl, el, l, _, _, M6⟩)
    · have c : ¬ 0 < g.counts 0 := fun z => c (decide_eq_true (Int.ofNat_lt.mpr z))
      refine ⟨_, rfl, p, _, 1, _, rfl, rfl, SqT.of hp5, atI_nat (j := 1) rfl, _, _, rfl, rfl, _, rfl, ite2 (fun d => ?_) (fun d => ?_)⟩
      · have d : 0 < g.counts 1 := Int.ofNat_lt.mp (of_decide_eq_true d)
        have eh : hamOf g = 0 := (if_neg c).trans (if_pos d)
        refine ⟨_, rfl, m, CM, dx, _, rfl, i5, T.clM, T.aHammer, (by show 7 < 1000; decide), ?_⟩
        rw [put_hammer]
        have M6 : MatchIn CM B (upd H5 m (.ins CM dx (mF g.ends 0 sl el 0 l (Kg65.opt g.won)))) m dx sl el l (overG g 0) (qs ++ [(p, (g.counts 0, g.counts 1))]) [] := M5.put (overG g 0) rfl rfl rfl rfl
        have s6 := same_mut (o := .ins CM dx (mF g.ends 0 sl el 0 l (Kg65.opt g.won))) s5 M.bm
        generalize upd H5 m (.ins CM dx (mF g.ends 0 sl el 0 l (Kg65.opt g.won))) = H6 at M6 s6 ⊢
        have el_ : (((qs ++ [(p, (g.counts 0, g.counts 1))]).map fun q => V.ref q.1).length : Int) = ((overG g 0).scores.length : Nat) := by rw [List.length_map, M6.qlen]
        have ec := close_is g
        rw [eh] at ec
        refine ⟨_, rfl, m, CM, dx, _, _, rfl, M6.ins, T.clM, T.aEnded, lk_ended, el, _, rfl, .inl (SqL.of M6.ended), _, rfl, m, CM, dx, _, _, rfl, M6.ins, T.clM, T.aEnds, lk_ends, _, _, rfl, rfl, _, rfl, ?_⟩
        rw [el_]
        refine ite2 (fun e => ?_) (fun e => ?_)
        · have e : ¬ (overG g 0).scores.length < (overG g 0).ends := Nat.not_lt.mpr (Int.ofNat_le.mp (of_decide_eq_true e))
          rw [if_neg e] at ec
          refine ⟨_, rfl, m, dx, _, rfl, M6.ins, mF_no (by decide +kernel), m, overG g 0, B, N + 1, rfl, FT.over _ (eh ▸ hamOf_le g FT.ham), by omega, s6, ⟨dx, sl, el, l, _, _, M6⟩, fun H7 s7 M7 => ?_⟩
          exact q H7 s7 (ec ▸ M7)
        · have e : (overG g 0).scores.length < (overG g 0).ends := Nat.lt_of_not_le fun z => e (decide_eq_true (Int.ofNat_le.mpr z))
          rw [if_pos e] at ec
          exact q _ s6 (ec ▸ ⟨dx, sl, el, l, _, _, M6⟩)
      · have d : ¬ 0 < g.counts 1 := fun z => d (decide_eq_true (Int.ofNat_lt.mpr z))
        have eh : hamOf g = g.hammer := (if_neg c).trans (if_neg d)
        have M6 := M5
        have s6 := s5
        have el_ : (((qs ++ [(p, (g.counts 0, g.counts 1))]).map fun q => V.ref q.1).length : Int) = ((overG g g.hammer).scores.length : Nat) := by rw [List.length_map, M6.qlen]
        have ec := close_is g
        rw [eh] at ec
        refine ⟨_, rfl, m, CM, dx, _, _, rfl, M6.ins, T.clM, T.aEnded, lk_ended, el, _, rfl, .inl (SqL.of M6.ended), _, rfl, m, CM, dx, _, _, rfl, M6.ins, T.clM, T.aEnds, lk_ends, _, _, rfl, rfl, _, rfl, ?_⟩
        rw [el_]
        refine ite2 (fun e => ?_) (fun e => ?_)
        · have e : ¬ (overG g g.hammer).scores.length < (overG g g.hammer).ends := Nat.not_lt.mpr (Int.ofNat_le.mp (of_decide_eq_true e))
          rw [if_neg e] at ec
          refine ⟨_, rfl, m, dx, _, rfl, M6.ins, mF_no (by decide +kernel), m, overG g g.hammer, B, N + 1, rfl, FT.over _ (eh ▸ hamOf_le g FT.ham), by omega, s6, ⟨dx, sl, el, l, _, _, M6⟩, fun H7 s7 M7 => ?_⟩
          exact q H7 s7 (ec ▸ M7)
        · have e : (overG g g.hammer).scores.length < (overG g g.hammer).ends := Nat.lt_of_not_le fun z => e (decide_eq_true (Int.ofNat_le.mpr z))
          rw [if_pos e] at ec
          exact q _ s6 (ec ▸ ⟨dx, sl, el, l, _, _, M6⟩)
theorem ok_deliverM {f : Addr} {fd : FuncData} (F : Fun K "deliver" "Match.deliver" s_Match_deliver f fd) (T : Txt K mg CM CL AD)
    (M_breaks_rule_of_guards : MethOk P w K mg base CM "breaks_rule_of_guards" 5 ["self", "stones"] (spBreaks CM))
    (M_close_end : MethOk P w K mg base CM "close_end" 5 ["self"] (spClose CM)) : FnOk P w K mg base CX0 6 f fd ["self", "stones"] (spDeliver CM) := by
  refine F.ok sc_Match_deliver (fun vs H Q E h => ?_) (fun cdv A outer s H vs Q E hr h => ?_)
  · obtain ⟨m, l, g, B, N, qs, rfl, _⟩ := h
    rfl
  · obtain ⟨m, l, g, B, N, ss, rfl, FT, hN, sB, ⟨dx, sl, el, ll, qs, ps, M⟩, hS, nr, hz, hd, bl, free, q⟩ := h
    refine ⟨_, (pss_cons (ps_set (i := 2) sc_Match_deliver.nd rfl (Or.inl rfl) (pe_methD (pv 0) T.clM M_breaks_rule_of_guards (by exact hr.mono (by decide)) (pa_cons (pv 1) pa_nil)))
        (pss_cons (ps_if (pt_not (pt_val (pv 2)))
          (pss_one (ps_fld (pv 0) (pv 1) rfl))
          pss_nil)
        (pss_cons (ps_fldaug (pv 0) pe_int in_add)
        (pss_cons (ps_if (pt_cmpR op_eq (pe_fld (pv 0) rfl) (pe_gi T.gSTONES_OF_AN_END rfl) (nomark _))
          (pss_one (ps_expr (pe_meth0D (pv 0) T.clM M_close_end (by exact hr.mono (by decide)))))
          pss_nil)
        (pss_one (ps_ret (pv 2))))))), ?_⟩
    refine ⟨_, rfl, m, dx, _, rfl, M.ins, mF_no (by decide +kernel), _, rfl, m, l, g, B, N, ss, rfl, ⟨dx, sl, el, ll, qs, ps, M⟩, FT, Nat.le_of_lt hN, hS, nr, hz, hd, fun H1 s1 => ?_⟩
    have M1 := M.same s1
    have S1 := hS.same s1
    have sB1 := sB.trans s1
    obtain ⟨n1, n2⟩ := free _ _ _ _ _ _ M
    refine ⟨_, rfl, _, rfl, ?_⟩
    cases hb : g.breaks (ss.map (·.2)) with
    | true =>
      have ed : g.deliver (ss.map (·.2)) = if g.count + 1 = 16 then Kg65.Game.close { g with count := g.count + 1 } else { g with count := g.count + 1 } := by
        unfold Kg65.Game.deliver
        rw [hb]
        rfl
      rw [hb] at q
      refine iteF ?_
      have F2 : Fit N { g with count := g.count + 1 } := ⟨FT.ham, FT.len, FT.near, FT.scl⟩
      have i1 := M1.ins
      have M2 : MatchIn CM B (upd H1 m (.ins CM dx (mF g.ends g.hammer sl el (((g.count : Nat) : Int) + 1) ll (Kg65.opt g.won)))) m dx sl el ll { g with count := g.count + 1 } qs ps := M1.put { g with count := g.count + 1 } rfl rfl rfl rfl
      have s2 := same_mut (o := .ins CM dx (mF g.ends g.hammer sl el (((g.count : Nat) : Int) + 1) ll (Kg65.opt g.won))) sB1 M.bm
      refine ⟨_, rfl, m, CM, dx, _, _, rfl, i1, T.clM, T.aDelivered, lk_delivered, _, _, rfl, rfl, dx, _, i1, (by show 7 < 1000; decide), ?_⟩
      rw [put_delivered]
      generalize upd H1 m (.ins CM dx (mF g.ends g.hammer sl el (((g.count : Nat) : Int) + 1) ll (Kg65.opt g.won))) = H2 at M2 s2 ⊢
      refine ⟨_, rfl, m, CM, dx, _, _, rfl, M2.ins, T.clM, T.aDelivered, lk_delivered, rfl, _, rfl, ite2 (fun c => ?_) (fun c => ?_)⟩
      · have c : g.count + 1 = 16 := Int.ofNat.inj (V.int.inj (of_decide_eq_true c))
        rw [if_pos c] at ed
        refine ⟨_, rfl, m, dx, _, rfl, M2.ins, mF_no (by decide +kernel), m, _, B, N, rfl, F2, hN, s2, ⟨dx, sl, el, _, qs, _, M2⟩, fun H3 s3 M3 => ?_⟩
        exact ⟨_, rfl, q H3 s3 (ed ▸ M3)⟩
      · have c : ¬ g.count + 1 = 16 := fun z => c (decide_eq_true (by show V.int (((g.count + 1 : Nat) : Int)) = _; rw [z]; rfl))
        rw [if_neg c] at ed
        exact ⟨_, rfl, q H2 s2 (ed ▸ ⟨dx, sl, el, _, qs, _, M2⟩)⟩
    | false =>
      have ed : g.deliver (ss.map (·.2)) = if g.count + 1 = 16 then Kg65.Game.close { g with stones := ss.map (·.2), count := g.count + 1 } else { g with stones := ss.map (·.2), count := g.count + 1 } := by
        unfold Kg65.Game.deliver
        rw [hb]
        rfl
      rw [hb] at q
      refine iteT ?_
      have F2 : Fit N { g with stones := ss.map (·.2), count := g.count + 1 } := ⟨FT.ham, by show (ss.map (·.2)).length ≤ 20; rw [List.length_map]; exact hz, fun x hx => by
        obtain ⟨p, mp, rfl⟩ := List.mem_map.mp hx
        exact nr p mp, FT.scl⟩
      refine ⟨_, rfl, _, rfl, m, CM, dx, _, rfl, M1.ins, T.clM, T.aLying, (by show 7 < 1000; decide), ?_⟩
      rw [put_lying]
      have MA := M1.putLying S1 bl n1 n2
      have sA := same_mut (o := .ins CM dx (mF g.ends g.hammer sl el g.count l (Kg65.opt g.won))) sB1 M.bm
      have i1 : upd H1 m (.ins CM dx (mF g.ends g.hammer sl el g.count l (Kg65.opt g.won))) m = some (.ins CM dx (mF g.ends g.hammer sl el g.count l (Kg65.opt g.won))) := upd_same
      generalize upd H1 m (.ins CM dx (mF g.ends g.hammer sl el g.count l (Kg65.opt g.won))) = HA at MA sA i1 ⊢
      have M2 : MatchIn CM B (upd HA m (.ins CM dx (mF g.ends g.hammer sl el (((g.count : Nat) : Int) + 1) l (Kg65.opt g.won)))) m dx sl el l { g with stones := ss.map (·.2), count := g.count + 1 } qs ss := MA.put { g with stones := ss.map (·.2), count := g.count + 1 } rfl rfl rfl rfl
      have s2 := same_mut (o := .ins CM dx (mF g.ends g.hammer sl el (((g.count : Nat) : Int) + 1) l (Kg65.opt g.won))) sA M.bm
      refine ⟨_, rfl, m, CM, dx, _, _, rfl, i1, T.clM, T.aDelivered, lk_delivered, _, _, rfl, rfl, dx, _, i1, (by show 7 < 1000; decide), ?_⟩
      rw [put_delivered]
      generalize upd HA m (.ins CM dx (mF g.ends g.hammer sl el (((g.count : Nat) : Int) + 1) l (Kg65.opt g.won))) = H2 at M2 s2 ⊢
      refine ⟨_, rfl, m, CM, dx, _, _, rfl, M2.ins, T.clM, T.aDelivered, lk_delivered, rfl, _, rfl, ite2 (fun c => ?_) (fun c => ?_)⟩
      · have c : g.count + 1 = 16 := Int.ofNat.inj (V.int.inj (of_decide_eq_true c))
        rw [if_pos c] at ed
        refine ⟨_, rfl, m, dx, _, rfl, M2.ins, mF_no (by decide +kernel), m, _, B, N, rfl, F2, hN, s2, ⟨dx, sl, el, _, qs, _, M2⟩, fun H3 s3 M3 => ?_⟩
        exact ⟨_, rfl, q H3 s3 (ed ▸ M3)⟩
      · have c : ¬ g.count + 1 = 16 := fun z => c (decide_eq_true (by show V.int (((g.count + 1 : Nat) : Int)) = _; rw [z]; rfl))
        rw [if_neg c] at ed
        exact ⟨_, rfl, q H2 s2 (ed ▸ ⟨dx, sl, el, _, qs, _, M2⟩)⟩
end
end Cm

namespace Cm
open PySem PySem.Spec PyProof.Rows L2
/-! ### numbers three by three -/
def triples : List Int → List (Int × Int × Int)
  | a :: b :: c :: l => (a, b, c) :: triples l
  | _ => []
def okT (t : Int × Int × Int) : Bool := Kg65.within t.1 0 15 && (Kg65.within t.2.1 (-10000) 10000 && Kg65.within t.2.2 (-10000) 10000)
def mkS (t : Int × Int × Int) : Stone := ⟨t.1.toNat, t.2.1, t.2.2⟩
theorem triples_len : ∀ l : List Int, (triples l).length = l.length / 3
  | [] => rfl
  | [_] => by simp [triples]
  | [_, _] => by simp [triples]
  | a :: b :: c :: l => by
    show (triples l).length + 1 = (l.length + 1 + 1 + 1) / 3
    rw [triples_len l]
    omega
theorem triples_at : ∀ (l : List Int) (i : Nat), i < (triples l).length → ∃ a b c, (triples l)[i]? = some (a, b, c) ∧ l[i * 3]? = some a ∧ l[i * 3 + 1]? = some b ∧ l[i * 3 + 2]? = some c
  | [], i, h => absurd h (Nat.not_lt_zero _)
  | [_], i, h => absurd h (Nat.not_lt_zero _)
  | [_, _], i, h => absurd h (Nat.not_lt_zero _)
  | a :: b :: c :: l, 0, _ => ⟨a, b, c, rfl, rfl, rfl, rfl⟩
  | a :: b :: c :: l, i + 1, h => by
    obtain ⟨x, y, z, h1, h2, h3, h4⟩ := triples_at l i (Nat.lt_of_succ_lt_succ h)
    refine ⟨x, y, z, h1, ?_, ?_, ?_⟩
    · rw [show (i + 1) * 3 = i * 3 + 1 + 1 + 1 by omega]
      exact h2
    · rw [show (i + 1) * 3 + 1 = (i * 3 + 1) + 1 + 1 + 1 by omega]
      exact h3
    · rw [show (i + 1) * 3 + 2 = (i * 3 + 2) + 1 + 1 + 1 by omega]
      exact h4
theorem stonesOf_is : ∀ l : List Int, Kg65.stonesOf l = if (decide (l.length % 3 = 0) && (triples l).all okT) = true then some ((triples l).map mkS) else none
  | [] => rfl
  | [_] => rfl
  | [_, _] => rfl
  | a :: b :: c :: l => by
    have e : ((a :: b :: c :: l).length % 3 = 0) = (l.length % 3 = 0) := by
      show ((l.length + 1 + 1 + 1) % 3 = 0) = _
      rw [eq_iff_iff]
      omega
    show (if okT (a, b, c) = true then (Kg65.stonesOf l).map fun r => mkS (a, b, c) :: r else none) = if (decide ((a :: b :: c :: l).length % 3 = 0) && (okT (a, b, c) && (triples l).all okT)) = true then _ else none
    simp only [e]
    rw [stonesOf_is l]
    cases okT (a, b, c) <;> cases decide (l.length % 3 = 0) <;> cases (triples l).all okT <;> rfl
/-- the whole numbers that a written call has -/
def wnTab : List (Int × Int) := [(1, 3), (3, 2), (4, 1), (5, 0), (6, 0), (7, 0), (8, 0)]
/-- where the numbers of the call at j stand -/
def HeadAt (ns : List Int) (j first len : Nat) : Prop := (∃ n : Int, ns[j]? = some 2 ∧ ns[j + 1]? = some n ∧ 0 ≤ n ∧ first = j + 2 ∧ len = n.toNat) ∨
  ∃ c w : Int, ns[j]? = some c ∧ c ≠ 2 ∧ (c, w) ∈ wnTab ∧ 0 ≤ w ∧ first = j + 1 ∧ len = w.toNat
def spStonesOf (K : PySem.W.Frag) : Sp := fun vs H Q _ => ∃ (a : Addr) (ns : List Int) (k : Nat), vs = [.ref a] ∧ SqL K H a (ns.map V.int) ∧ ns.length = k * 3 ∧ k ≤ 20 ∧
  ∀ (H' : Hp) (p : Addr) (ts : List (Addr × (Int × Int × Int))), Same H H' → H p = none → H' p = some (.lst (ts.map fun t => V.ref t.1)) →
    (∀ t ∈ ts, H' t.1 = some (.tup [.int t.2.1, .int t.2.2.1, .int t.2.2.2])) → ts.map (·.2) = triples ns → Q (.ref p) H'
def spAreStones (K : PySem.W.Frag) : Sp := fun vs H Q _ => ∃ (a : Addr) (ns : List Int), vs = [.ref a] ∧ SqL K H a (ns.map V.int) ∧ ns.length ≤ 60 ∧
  ∀ H' : Hp, Same H H' → Q (.bl (Kg65.stonesOf ns).isSome) H'
def spNums (K : PySem.W.Frag) : Sp := fun vs H Q _ => ∃ (a : Addr) (ns : List Int) (j first len : Nat), vs = [.ref a, .int j] ∧ SqL K H a (ns.map V.int) ∧ HeadAt ns j first len ∧ first + len ≤ ns.length ∧
  ∀ (H' : Hp) (p t : Addr), Same H H' → H p = none → H' p = some (.lst (((ns.drop first).take len).map V.int)) → H' t = some (.tup [.ref p, .int ((first + len : Nat) : Int)]) → Q (.ref t) H'
theorem cut_at (ns : List Int) (i k : Nat) (h : i + k ≤ ns.length) : cutV (ns.map V.int) (some (i : Int)) (some ((i + k : Nat) : Int)) = ((ns.drop i).take k).map V.int := by
  unfold cutV
  have m1 : min i ns.length = i := Nat.min_eq_left (by omega)
  have m2 : min (i + k) ns.length = i + k := Nat.min_eq_left h
  rw [HT.sIx_nat, HT.sIx_nat, List.length_map, m1, m2, ← List.map_drop, ← List.map_take, Nat.add_sub_cancel_left]
theorem rg3 : ∀ k : Fin 21, RgC 0 ((k.val * 3 : Nat) : Int) 3 k.val := by
  unfold RgC
  decide
theorem chain_le {lo hi x : Int} {i : Nat} {σ : L2.St} {H : Hp} {Q : Bool → Hp → Prop} (hs : σ[i]? = some (some (.int x))) (h : Q (decide (lo ≤ x) && decide (x ≤ hi)) H) :
    tTest (tChain (rI0 fun i j => .bl (decide (i ≤ j))) (rI0 fun i j => .bl (decide (i ≤ j))) (tC (.int lo)) (tVar i) (tC (.int hi))) σ H Q := by
  refine ⟨_, hs, _, _, rfl, rfl, _, rfl, ?_⟩
  by_cases c : lo ≤ x
  · rw [decide_eq_true c] at h ⊢
    exact iteT ⟨_, _, rfl, rfl, _, rfl, h⟩
  · rw [decide_eq_false c] at h ⊢
    exact iteF ⟨_, rfl, h⟩
theorem chain_lt {lo hi x : Int} {i : Nat} {σ : L2.St} {H : Hp} {Q : Bool → Hp → Prop} (hs : σ[i]? = some (some (.int x))) (h : Q (decide (lo ≤ x) && decide (x < hi)) H) :
    tTest (tChain (rI0 fun i j => .bl (decide (i ≤ j))) (rI0 fun i j => .bl (decide (i < j))) (tC (.int lo)) (tVar i) (tC (.int hi))) σ H Q := by
  refine ⟨_, hs, _, _, rfl, rfl, _, rfl, ?_⟩
  by_cases c : lo ≤ x
  · rw [decide_eq_true c] at h ⊢
    exact iteT ⟨_, _, rfl, rfl, _, rfl, h⟩
  · rw [decide_eq_false c] at h ⊢
    exact iteF ⟨_, rfl, h⟩
section
variable {P : Program} {w : World} {K : PySem.W.Frag} {mg : Str → Option Value} {base : Heap} {CM CL AD : Addr}
theorem ok_stones_of {f : Addr} {fd : FuncData} (F : Fun K "stones_of" "stones_of" s_stones_of f fd) (T : Txt K mg CM CL AD) : FnOk P w K mg base CX0 1 f fd ["numbers"] (spStonesOf K) := by
  refine F.ok sc_stones_of (fun vs H Q E h => ?_) (fun cdv A outer s H vs Q E hr h => ?_)
  · obtain ⟨a, ns, k, rfl, _⟩ := h
    rfl
  · obtain ⟨a, ns, k, rfl, ha, hl, hk, q⟩ := h
    refine ⟨_, (pss_one (ps_ret (pe_lc (own := [("at", 1)]) (g := gName 1) (tt := tYes) (by rfl) sc_stones_of.nd (pi_range3 (by rfl) T.nrange (pa_cons pe_int (pa_cons (pe_callB call_len_seq (by rfl) T.nlen PySem.boot_len (pa_cons (pv 0) pa_nil)) (pa_cons pe_int pa_nil)))) (blkOk_by (N := N_stones_of) (sc := defScope s_stones_of) (by decide +kernel)) (fun _ _ _ _ _ => pg_name (i := 1) sc_stones_of.nd rfl (Or.inl rfl)) (fun _ _ _ _ _ => pts_nil) (fun _ _ _ _ _ => (pe_tup (pa_cons (pe_ix (r := rIxL K) ix_list (pv 0) (pv 1) (fun _ _ => rfl)) (pa_cons (pe_ix (r := rIxL K) ix_list (pv 0) (pe_op op_add (pv 1) pe_int) (fun _ _ => rfl)) (pa_cons (pe_ix (r := rIxL K) ix_list (pv 0) (pe_op op_add (pv 1) pe_int) (fun _ _ => rfl)) pa_nil)))))))), ?_⟩
    have rg := rg3 ⟨k, by omega⟩
    refine ⟨_, rfl, a, _, rfl, .inl ha, 0, _, 3, k, rfl, ?_, fun D hD => lc_it walk_rangeC
      (fun i H' => ∃ ts : List (Addr × (Int × Int × Int)), ts.length = i ∧ Same H H' ∧ H' D = some (.lst (ts.map fun t => V.ref t.1)) ∧ (∀ t ∈ ts, H' t.1 = some (.tup [.int t.2.1, .int t.2.2.1, .int t.2.2.2])) ∧ ts.map (·.2) = (triples ns).take i)
      ⟨[], rfl, same_upd hD, upd_same, fun t ht => absurd ht List.not_mem_nil, rfl⟩ (fun _ _ _ _ => trivial) ?_ ?_⟩
    · rw [List.length_map, hl]
      exact rg
    · rintro i x H0 H1 hi ⟨ts, el, s1, eD, et, em⟩ ⟨rfl, rfl⟩
      have li : i < (triples ns).length := by
        rw [triples_len, hl]
        omega
      obtain ⟨x, y, z, e0, e1, e2, e3⟩ := triples_at ns i li
      have g : ∀ (j : Nat) (v : Int), ns[j]? = some v → (ns.map V.int)[j]? = some (.int v) := fun j v h => by
        rw [List.getElem?_map, h]
        rfl
      refine ⟨rfl, ?_⟩
      refine ⟨_, rfl, _, rfl, a, _, _, _, rfl, rfl, s1.seq ha, at_of (j := i * 3) (by omega) (g _ _ e1), ?_⟩
      refine ⟨_, rfl, _, rfl, _, _, rfl, rfl, a, _, _, _, rfl, rfl, s1.seq ha, at_of (j := i * 3 + 1) (by omega) (g _ _ e2), ?_⟩
      refine ⟨_, rfl, _, rfl, _, _, rfl, rfl, a, _, _, _, rfl, rfl, s1.seq ha, at_of (j := i * 3 + 2) (by omega) (g _ _ e3), ?_⟩
      refine ⟨(by show 3 ≤ sizeLine; decide), fun t nt => ?_⟩
      have nD : D ≠ t := ne_of_none eD nt
      have st : Same H1 _ := same_upd (o := .tup [.int x, .int y, .int z]) nt
      refine ⟨_, st _ _ eD, ?_, ts ++ [(t, (x, y, z))], ?_, ?_, ?_, fun r hr => ?_, ?_⟩
      · rw [List.length_map, el]
        exact Nat.lt_of_lt_of_le hi (Nat.le_trans hk (by decide))
      · rw [List.length_append, el]
        rfl
      · exact same_mut (s1.trans st) hD
      · rw [upd_same, List.map_append]
        rfl
      · have nr : ∀ b xs, (upd H1 t (.tup [.int x, .int y, .int z])) b = some (.tup xs) → b ≠ D := fun b xs h => ne_of h (st _ _ eD) (by intro z; cases z)
        rcases List.mem_append.mp hr with hr | hr
        · have := st _ _ (et r hr)
          rw [upd_ne (nr _ _ this)]
          exact this
        · rw [List.mem_singleton.mp hr, upd_ne (nr _ _ upd_same)]
          exact upd_same
      · rw [List.map_append, em, take_more e0]
        rfl
    · rintro H1 ⟨ts, el, s1, eD, et, em⟩
      refine q H1 D ts s1 hD eD et ?_
      rw [em]
      exact List.take_of_length_le (by rw [triples_len, hl]; omega)
theorem ok_are_stones {f : Addr} {fd : FuncData} (F : Fun K "are_stones" "are_stones" s_are_stones f fd) (T : Txt K mg CM CL AD)
    (D_stones_of : DefOk P w K mg base "stones_of" 1 ["numbers"] (spStonesOf K)) : FnOk P w K mg base CX0 2 f fd ["numbers"] (spAreStones K) := by
  refine F.ok sc_are_stones (fun vs H Q E h => ?_) (fun cdv A outer s H vs Q E hr h => ?_)
  · obtain ⟨a, ns, rfl, _⟩ := h
    rfl
  · obtain ⟨a, ns, rfl, ha, hl, q⟩ := h
    refine ⟨_, (pss_cons (ps_if (pt_cmpR op_ne (pe_op op_modN (pe_callB call_len_seq (by rfl) T.nlen PySem.boot_len (pa_cons (pv 0) pa_nil)) pe_int) pe_int (nomark _))
          (pss_one (ps_ret pe_bl))
          pss_nil)
        (pss_cons (ps_for PassesOwn.never rfl (pi_list (pe_callD D_stones_of (by exact hr.mono (by decide)) (by rfl) (pa_cons (pv 0) pa_nil))) (pg_tup (by rfl) (pgs_cons (pg_name (i := 1) sc_are_stones.nd rfl (Or.inl rfl)) (pgs_cons (pg_name (i := 2) sc_are_stones.nd rfl (Or.inl rfl)) (pgs_cons (pg_name (i := 3) sc_are_stones.nd rfl (Or.inl rfl)) pgs_nil))))
          (pss_one (ps_if (PW.pt (pw_or (pt_not (pt_chain op_le op_lt pe_int (pv 1) (pe_gi T.gSTONES_OF_AN_END rfl))) (pw_or (pt_cmpR op_gt (pe_callB call_abs (by rfl) T.nabs (by decide +kernel) (pa_cons (pv 2) pa_nil)) (pe_gi T.gFARTHEST rfl) (nomark _)) (pw_or1 (pt_cmpR op_gt (pe_callB call_abs (by rfl) T.nabs (by decide +kernel) (pa_cons (pv 3) pa_nil)) (pe_gi T.gFARTHEST rfl) (nomark _))))))
            (pss_one (ps_ret pe_bl))
            pss_nil)))
        (pss_one (ps_ret pe_bl)))), ?_⟩
    refine ⟨_, rfl, a, _, rfl, .inl ha, _, _, rfl, rfl, (by show (3 : Int) ≠ 0; decide), rfl, _, rfl, ?_⟩
    have e3 : (!decide (V.int ((((ns.map V.int).length : Nat) : Int).fmod 3) = V.int 0)) = decide (¬ ns.length % 3 = 0) := by
      have : (((ns.map V.int).length : Nat) : Int).fmod 3 = ((ns.length % 3 : Nat) : Int) := by
        rw [List.length_map, Int.fmod_eq_emod_of_nonneg _ (by decide)]
        rfl
      rw [this]
      by_cases z : ns.length % 3 = 0
      · rw [z]
        rfl
      · have : ¬ V.int ((ns.length % 3 : Nat) : Int) = V.int 0 := fun y => z (Int.ofNat.inj (V.int.inj y))
        rw [decide_eq_false this, decide_eq_true z]
        rfl
    refine ite2 (fun c => ?_) (fun c => ?_)
    · have c : ¬ ns.length % 3 = 0 := of_decide_eq_true (e3.symm.trans c)
      refine bl_of (q H (Same.refl H)) ?_
      rw [stonesOf_is, decide_eq_false c]
      rfl
    · have c : ns.length % 3 = 0 := Decidable.not_not.mp (of_decide_eq_false (e3.symm.trans (Bool.eq_false_iff.mpr c)))
      refine ⟨_, rfl, a, ns, ns.length / 3, rfl, ha, by omega, by omega, fun H1 p ts s1 np ep et em => ?_⟩
      refine ⟨p, rfl, ⟨_, SqL.of ep⟩, for_list (fun i σ H' => ∃ v1 v2 v3, σ = [some (.ref a), v1, v2, v3] ∧ H' = H1 ∧ ((triples ns).take i).all okT = true) ⟨none, none, none, rfl, rfl, rfl⟩
        (fun i σ H' _ ⟨_, _, _, _, e, _⟩ => e ▸ SqL.of ep) ?_ ?_⟩
      · rintro i x σ H2 hi ⟨v1, v2, v3, rfl, rfl, hc⟩
        obtain ⟨t, ht, rfl⟩ := map_at hi
        have mt := List.mem_of_getElem? ht
        have e0 : (triples ns)[i]? = some t.2 := by
          rw [← em, List.getElem?_map, ht]
          rfl
        have no : okT t.2 = false → Q (.bl false) H2 := fun hn => by
          refine bl_of (q H2 s1) ?_
          have : (triples ns).all okT = false := by
            rw [List.all_eq_false]
            exact ⟨t.2, List.mem_of_getElem? e0, by rw [hn]; exact Bool.false_ne_true⟩
          rw [stonesOf_is, this, Bool.and_false]
          rfl
        refine ⟨t.1, _, rfl, SqT.of (et t mt), rfl, _, _, rfl, _, _, rfl, _, _, rfl, rfl, ?_⟩
        refine chain_lt rfl ?_
        have ew : (decide ((0 : Int) ≤ t.2.1) && decide (t.2.1 < 16)) = Kg65.within t.2.1 0 15 := by
          unfold Kg65.within
          rw [Bool.eq_iff_iff]
          simp only [Bool.and_eq_true, decide_eq_true_iff]
          omega
        rw [ew]
        cases hw : Kg65.within t.2.1 0 15 with
        | false =>
          refine iteT ?_
          refine iteT ?_
          exact no (by unfold okT; rw [hw]; rfl)
        | true =>
          refine iteF ?_
          have ea : ∀ z : Int, Kg65.within z (-10000) 10000 = !decide ((10000 : Int) < (if z < 0 then -z else z)) := fun z => by
            unfold Kg65.within
            rw [Bool.eq_iff_iff]
            simp only [Bool.and_eq_true, Bool.not_eq_true', decide_eq_false_iff_not, decide_eq_true_iff]
            omega
          refine ⟨_, rfl, _, rfl, _, _, rfl, rfl, _, rfl, ite2 (fun d => ?_) (fun d => ?_)⟩
          · refine iteT ?_
            exact no (by unfold okT; rw [ea t.2.2.1, d]; simp)
          · refine ⟨_, rfl, _, rfl, _, _, rfl, rfl, _, rfl, ite2 (fun d2 => ?_) (fun d2 => ?_)⟩
            · exact no (by unfold okT; rw [ea t.2.2.2, d2]; simp)
            · refine ⟨_, _, _, rfl, rfl, ?_⟩
              rw [take_more e0, List.all_append, hc]
              show (okT t.2 && true) = true
              unfold okT
              rw [ea, ea, hw, Bool.eq_false_iff.mpr d, Bool.eq_false_iff.mpr d2]
              rfl
      · rintro σ H2 ⟨v1, v2, v3, rfl, rfl, hc⟩
        refine bl_of (q H2 s1) ?_
        have : (ts.map fun t => V.ref t.1).length = (triples ns).length := by rw [List.length_map, ← em, List.length_map]
        rw [this, List.take_length] at hc
        rw [stonesOf_is, hc, decide_eq_true c]
        rfl
theorem ok_numbers_of_call {f : Addr} {fd : FuncData} (F : Fun K "numbers_of_call" "numbers_of_call" s_numbers_of_call f fd) (T : Txt K mg CM CL AD) : FnOk P w K mg base CX0 1 f fd ["calls", "at"] (spNums K) := by
  refine F.ok sc_numbers_of_call (fun vs H Q E h => ?_) (fun cdv A outer s H vs Q E hr h => ?_)
  · obtain ⟨a, ns, j, first, len, rfl, _⟩ := h
    rfl
  · obtain ⟨a, ns, j, first, len, rfl, ha, hh, hz, q⟩ := h
    refine ⟨_, (pss_cons (ps_if (pt_cmpR op_eq (pe_ix (r := rIxL K) ix_list (pv 0) (pv 1) (fun _ _ => rfl)) (pe_gi T.gDELIVER rfl) (nomark _))
          (pss_cons (ps_set (i := 2) sc_numbers_of_call.nd rfl (Or.inl rfl) (pe_op op_add (pv 1) pe_int))
          (pss_one (ps_set (i := 3) sc_numbers_of_call.nd rfl (Or.inl rfl) (pe_op op_add (pv 2) (pe_ix (r := rIxL K) ix_list (pv 0) (pe_op op_add (pv 1) pe_int) (fun _ _ => rfl))))))
          (pss_cons (ps_set (i := 2) sc_numbers_of_call.nd rfl (Or.inl rfl) (pe_op op_add (pv 1) pe_int))
          (pss_one (ps_set (i := 3) sc_numbers_of_call.nd rfl (Or.inl rfl) (pe_op op_add (pv 2) (pe_ix ix_kdI (pe_glob (v := .ref AD) rfl T.gWHOLE_NUMBERS rfl) (pe_ix (r := rIxL K) ix_list (pv 0) (pv 1) (fun _ _ => rfl)) (fun _ _ => rfl)))))))
        (pss_one (ps_ret (pe_tup (pa_cons (pe_slice sl_list (pv 0) (po_some (pv 2)) (po_some (pv 3))) (pa_cons (pv 3) pa_nil)))))), ?_⟩
    have g : ∀ (j : Nat) (v : Int), ns[j]? = some v → (ns.map V.int)[j]? = some (.int v) := fun j v h => by
      rw [List.getElem?_map, h]
      rfl
    rcases hh with ⟨n, h1, h2, h0, rfl, rfl⟩ | ⟨c, k, h1, h2, h3, h0, rfl, rfl⟩
    · refine ⟨_, rfl, _, rfl, a, _, _, _, rfl, rfl, ha, atI_nat (g _ _ h1), rfl, _, rfl, ite2 (fun _ => ?_) (fun z => absurd (decide_eq_true rfl) z)⟩
      refine ⟨_, rfl, _, _, rfl, rfl, ?_⟩
      refine ⟨_, rfl, _, rfl, _, rfl, _, _, rfl, rfl, a, _, _, _, rfl, rfl, ha, at_of (j := j + 1) (by omega) (g _ _ h2), _, _, rfl, rfl, ?_⟩
      have e1 : ((j : Nat) : Int) + 2 = ((j + 2 : Nat) : Int) := rfl
      have e2 : ((j + 2 : Nat) : Int) + n = ((j + 2 + n.toNat : Nat) : Int) := by omega
      dsimp only
      rw [e1, e2]
      refine ⟨_, rfl, _, rfl, _, rfl, _, rfl, _, rfl, a, _, rfl, ha, fun p np => ?_⟩
      rw [cut_at ns _ _ hz]
      refine ⟨_, rfl, (by show 2 ≤ sizeLine; decide), fun t nt => ?_⟩
      exact q _ p t ((same_upd np).trans (same_upd nt)) np (same_upd nt _ _ upd_same) upd_same
    · refine ⟨_, rfl, _, rfl, a, _, _, _, rfl, rfl, ha, atI_nat (g _ _ h1), rfl, _, rfl, ite2 (fun z => absurd (V.int.inj (of_decide_eq_true z)) h2) (fun _ => ?_)⟩
      refine ⟨_, rfl, _, _, rfl, rfl, ?_⟩
      refine ⟨_, rfl, _, rfl, _, rfl, a, _, _, _, rfl, rfl, ha, atI_nat (g _ _ h1), AD, c, _, rfl, rfl, T.wn c k h3, _, _, rfl, rfl, ?_⟩
      have e1 : ((j : Nat) : Int) + 1 = ((j + 1 : Nat) : Int) := rfl
      have e2 : ((j + 1 : Nat) : Int) + k = ((j + 1 + k.toNat : Nat) : Int) := by omega
      dsimp only
      rw [e1, e2]
      refine ⟨_, rfl, _, rfl, _, rfl, _, rfl, _, rfl, a, _, rfl, ha, fun p np => ?_⟩
      rw [cut_at ns _ _ hz]
      refine ⟨_, rfl, (by show 2 ≤ sizeLine; decide), fun t nt => ?_⟩
      exact q _ p t ((same_upd np).trans (same_upd nt)) np (same_upd nt _ _ upd_same) upd_same
end
end Cm

namespace Cm
open PySem PySem.Spec PyProof.Rows L2
/-! ### the line in the heap -/
def LineAt (CL CM : Addr) (B H : Hp) (L : Addr) : Option Game → Prop
  | none => B L = none ∧ ∃ dx, H L = some (.ins CL dx [("current", .non)])
  | some g => B L = none ∧ ∃ dx m, H L = some (.ins CL dx [("current", .ref m)]) ∧ m ≠ L ∧ MatchAt CM B H m g
def goes : Option Game → Bool
  | none => false
  | some g => !g.won.isSome
def FitS (N : Nat) (s : Option Game) : Prop := ∀ g, s = some g → Fit N g
section
variable {CL CM : Addr} {B H H' : Hp} {L : Addr} {s : Option Game}
theorem LineAt.same (e : Same H H') (A : LineAt CL CM B H L s) : LineAt CL CM B H' L s := by
  cases s with
  | none =>
    obtain ⟨b, dx, h⟩ := A
    exact ⟨b, dx, e _ _ h⟩
  | some g =>
    obtain ⟨b, dx, m, h, n, M⟩ := A
    exact ⟨b, dx, m, e _ _ h, n, M.same e⟩
theorem LineAt.free (A : LineAt CL CM B H L s) : B L = none := by
  cases s with
  | none => exact A.1
  | some g => exact A.1
theorem LineAt.ins (A : LineAt CL CM B H L s) : ∃ dx v, H L = some (.ins CL dx [("current", v)]) := by
  cases s with
  | none =>
    obtain ⟨b, dx, h⟩ := A
    exact ⟨dx, _, h⟩
  | some g =>
    obtain ⟨b, dx, m, h, n, M⟩ := A
    exact ⟨dx, _, h⟩
theorem MatchIn.keep {m dx sl el ll : Addr} {g : Game} {qs : List (Addr × (Nat × Nat))} {ps : List (Addr × Stone)} (M : MatchIn CM B H m dx sl el ll g qs ps) {dl : Addr} {fs : List (Str × V)} (hL : H L = some (.ins CL dl fs)) (nm : m ≠ L) (o : HO) :
    MatchIn CM B (upd H L o) m dx sl el ll g qs ps := by
  have nl : ∀ a xs, H a = some (.lst xs) → a ≠ L := fun a xs h => ne_of h hL (by intro z; cases z)
  have nt : ∀ a xs, H a = some (.tup xs) → a ≠ L := fun a xs h => ne_of h hL (by intro z; cases z)
  refine ⟨?_, ?_, ?_, fun q hq => ?_, ⟨?_, fun p hp => ?_⟩, M.eqs, M.eps, M.bm, M.bsl, M.bel, M.bll, M.ne1, M.ne2, M.ne3⟩
  · rw [upd_ne nm]
    exact M.ins
  · rw [upd_ne (nl _ _ M.secs)]
    exact M.secs
  · rw [upd_ne (nl _ _ M.ended)]
    exact M.ended
  · rw [upd_ne (nt _ _ (M.pairs q hq))]
    exact M.pairs q hq
  · rw [upd_ne (nl _ _ M.stones.lst)]
    exact M.stones.lst
  · rw [upd_ne (nt _ _ (M.stones.tup p hp))]
    exact M.stones.tup p hp
/-- the line besides is to be left alone -/
theorem MatchIn.more {m dx sl el ll : Addr} {g : Game} {qs : List (Addr × (Nat × Nat))} {ps : List (Addr × Stone)} (M : MatchIn CM B H m dx sl el ll g qs ps) {dl : Addr} {fs : List (Str × V)} (hL : H L = some (.ins CL dl fs)) (nm : m ≠ L) (o : HO) :
    MatchIn CM (upd B L o) H m dx sl el ll g qs ps := by
  have nl : ∀ a xs, H a = some (.lst xs) → a ≠ L := fun a xs h => ne_of h hL (by intro z; cases z)
  refine ⟨M.ins, M.secs, M.ended, M.pairs, M.stones, M.eqs, M.eps, ?_, ?_, ?_, ?_, M.ne1, M.ne2, M.ne3⟩
  · rw [upd_ne nm]
    exact M.bm
  · rw [upd_ne (nl _ _ M.secs)]
    exact M.bsl
  · rw [upd_ne (nl _ _ M.ended)]
    exact M.bel
  · rw [upd_ne (nl _ _ M.stones.lst)]
    exact M.bll
theorem MatchIn.inj {B2 : Hp} {m dx sl el ll : Addr} {g : Game} {qs : List (Addr × (Nat × Nat))} {ps : List (Addr × Stone)} (M : MatchIn CM B H m dx sl el ll g qs ps)
    {dx2 sl2 el2 ll2 : Addr} {g2 : Game} {qs2 : List (Addr × (Nat × Nat))} {ps2 : List (Addr × Stone)} (M2 : MatchIn CM B2 H m dx2 sl2 el2 ll2 g2 qs2 ps2) : sl = sl2 ∧ el = el2 := by
  have e := M.ins.symm.trans M2.ins
  injection e with e
  injection e with _ _ e
  unfold mF at e
  injection e with _ e
  injection e with _ e
  injection e with e1 e
  injection e with e2 e
  injection e1 with _ e1
  injection e2 with _ e2
  injection e1 with e1
  injection e2 with e2
  exact ⟨e1, e2⟩
theorem same_add (e : Same B H) {o : HO} (hL : H L = some o) : Same (upd B L o) H := fun b x h => by
  unfold upd at h
  by_cases c : b = L
  · rw [if_pos c] at h
    cases h
    rw [c]
    exact hL
  · rw [if_neg c] at h
    exact e b x h
theorem same_sub {o : HO} (b : B L = none) : Same B (upd B L o) := same_upd b
end
/-- what a call on the line has answered, and how the line is then -/
def Tell (CL CM : Addr) (B : Hp) (L : Addr) (s : Option Game) (k : Kg65.Call) (Q : VK) : Prop := ∀ (H' : Hp) (p : Addr), Same B H' → LineAt CL CM B H' L (Kg65.spec s k).1 → B p = none →
  H' p = some (.lst (((Kg65.spec s k).2.value :: (Kg65.spec s k).2.out).map V.int)) → Q (.ref p) H'
/-- a refusal -/
theorem refuse {CL CM : Addr} {B H : Hp} {L : Addr} {s : Option Game} {k : Kg65.Call} {Q : VK} {z : Int} (e : Same B H) (A : LineAt CL CM B H L s) (t : Tell CL CM B L s k Q) (h : Kg65.spec s k = (s, Kg65.num z)) :
    [V.int z].length ≤ sizeLine ∧ ∀ p, H p = none → Q (.ref p) (upd H p (.lst [.int z])) := by
  refine ⟨(by show 1 ≤ sizeLine; decide), fun p np => ?_⟩
  unfold Tell at t
  rw [h] at t
  exact t _ p (e.trans (same_upd np)) (A.same (same_upd np)) (e.free np) upd_same
def spInitL (CL : Addr) : Sp := fun vs H Q _ => ∃ (L dx : Addr), vs = [.ref L] ∧ H L = some (.ins CL dx []) ∧ Q .non (upd H L (.ins CL dx [("current", .non)]))
def spGoes (CL CM : Addr) : Sp := fun vs H Q _ => ∃ (L : Addr) (s : Option Game) (B : Hp), vs = [.ref L] ∧ LineAt CL CM B H L s ∧ Q (.bl (goes s)) H
def spBegin (CL CM : Addr) : Sp := fun vs H Q _ => ∃ (L : Addr) (s : Option Game) (B : Hp) (e h t : Int), vs = [.ref L, .int e, .int h, .int t] ∧ Same B H ∧ LineAt CL CM B H L s ∧ Tell CL CM B L s (.begin_ e h t) Q
def spDeliverL (K : PySem.W.Frag) (CL CM : Addr) : Sp := fun vs H Q _ => ∃ (L : Addr) (s : Option Game) (B : Hp) (N : Nat) (a : Addr) (ns : List Int), vs = [.ref L, .ref a] ∧ Same B H ∧ LineAt CL CM B H L s ∧ FitS N s ∧ N < 1000 ∧
  SqL K H a (ns.map V.int) ∧ ns.length ≤ 60 ∧ Tell CL CM B L s (.deliver ns) Q
def spTimeL (CL CM : Addr) : Sp := fun vs H Q _ => ∃ (L : Addr) (s : Option Game) (B : Hp) (N : Nat) (side t : Int), vs = [.ref L, .int side, .int t] ∧ Same B H ∧ LineAt CL CM B H L s ∧ FitS N s ∧ N < 1000 ∧ Tell CL CM B L s (.time side t) Q
def spGiveL (CL CM : Addr) : Sp := fun vs H Q _ => ∃ (L : Addr) (s : Option Game) (B : Hp) (N : Nat) (side : Int), vs = [.ref L, .int side] ∧ Same B H ∧ LineAt CL CM B H L s ∧ FitS N s ∧ N < 1000 ∧ Tell CL CM B L s (.give side) Q
def LookIs (c : Int) (k : Kg65.Call) : Prop := (c = 5 ∧ k = .now) ∨ (c = 6 ∧ k = .stones) ∨ (c = 7 ∧ k = .scores) ∨ (c = 8 ∧ k = .shot)
def spLook (CL CM : Addr) : Sp := fun vs H Q _ => ∃ (L : Addr) (s : Option Game) (B : Hp) (N : Nat) (c : Int) (k : Kg65.Call), vs = [.ref L, .int c] ∧ LookIs c k ∧ Same B H ∧ LineAt CL CM B H L s ∧ FitS N s ∧ N < 1000 ∧ Tell CL CM B L s k Q
theorem onGame_no {s : Option Game} {f : Game → Option Game × Kg65.Ans} (h : goes s = false) : Kg65.onGame s f = (s, Kg65.num (-2)) := by
  cases s with
  | none => rfl
  | some g =>
    have : g.won.isSome = true := by
      cases e : g.won.isSome with
      | true => rfl
      | false =>
        have h : (!g.won.isSome) = false := h
        rw [e] at h
        cases h
    show (if g.won.isSome = true then (some g, Kg65.num (-2)) else f g) = _
    rw [if_pos this]
theorem onGame_go {s : Option Game} {f : Game → Option Game × Kg65.Ans} (h : goes s = true) : ∃ g, s = some g ∧ Kg65.onGame s f = f g := by
  cases s with
  | none => cases h
  | some g =>
    refine ⟨g, rfl, ?_⟩
    have : ¬ g.won.isSome = true := fun e => by
      have h : (!g.won.isSome) = true := h
      rw [e] at h
      cases h
    show (if g.won.isSome = true then (some g, Kg65.num (-2)) else f g) = _
    rw [if_neg this]
theorem within_nat {z lo hi : Int} (h0 : 0 ≤ lo) (h : Kg65.within z lo hi = true) : ∃ n : Nat, z = n ∧ lo ≤ (n : Int) ∧ (n : Int) ≤ hi := by
  unfold Kg65.within at h
  rw [Bool.and_eq_true, decide_eq_true_iff, decide_eq_true_iff] at h
  exact ⟨z.toNat, by omega, by omega, by omega⟩
section
variable {P : Program} {w : World} {K : PySem.W.Frag} {mg : Str → Option Value} {base : Heap} {CM CL AD : Addr}
theorem ok_initL {f : Addr} {fd : FuncData} (F : Fun K "__init__" "Line.__init__" s_Line___init__ f fd) (T : Txt K mg CM CL AD) : FnOk P w K mg base CX0 1 f fd ["self"] (spInitL CL) := by
  refine F.ok sc_Line___init__ (fun vs H Q E h => ?_) (fun cdv A outer s H vs Q E hr h => ?_)
  · obtain ⟨L, dx, rfl, _⟩ := h
    rfl
  · obtain ⟨L, dx, rfl, hL, q⟩ := h
    refine ⟨_, (pss_one (ps_fld (pv 0) pe_non rfl)), ?_⟩
    exact ⟨_, rfl, L, CL, dx, _, rfl, hL, T.clL, T.aCurrent, (by show 0 < 1000; decide), q⟩
theorem ok_goes_on {f : Addr} {fd : FuncData} (F : Fun K "goes_on" "Line.goes_on" s_Line_goes_on f fd) (T : Txt K mg CM CL AD)
    (M_is_over : MethOk P w K mg base CM "is_over" 1 ["self"] (spIsOver CM)) : FnOk P w K mg base CX0 2 f fd ["self"] (spGoes CL CM) := by
  refine F.ok sc_Line_goes_on (fun vs H Q E h => ?_) (fun cdv A outer s H vs Q E hr h => ?_)
  · obtain ⟨L, s, B, rfl, _⟩ := h
    rfl
  · obtain ⟨L, s, B, rfl, A, q⟩ := h
    refine ⟨_, (pss_one (ps_ret (pe_and (pe_cmpR op_notN (pe_fld (pv 0) rfl) pe_non (nomark _)) (pe_one (pe_not (pe_meth0D (pe_fld (pv 0) rfl) T.clM M_is_over (by exact hr.mono (by decide)))))))), ?_⟩
    cases s with
    | none =>
      obtain ⟨_, dx, hL⟩ := A
      exact ⟨_, rfl, L, CL, dx, _, _, rfl, hL, T.clL, T.aCurrent, lk_here, rfl, _, rfl, ite2 (fun c => absurd c (by decide)) (fun _ => q)⟩
    | some g =>
      obtain ⟨_, dx, m, hL, nm, ⟨dm, sl, el, ll, qs, ps, M⟩⟩ := A
      have hn : ¬ V.ref m = V.non := fun z => by cases z
      refine ⟨_, rfl, L, CL, dx, _, _, rfl, hL, T.clL, T.aCurrent, lk_here, rfl, _, rfl, ite2 (fun c => ?_) (fun c => absurd (by rw [decide_eq_false hn]; rfl) c)⟩
      exact ⟨_, rfl, L, CL, dx, _, _, rfl, hL, T.clL, T.aCurrent, lk_here, m, dm, _, rfl, M.ins, mF_no (by decide +kernel), m, g, B, rfl, ⟨dm, sl, el, ll, qs, ps, M⟩, _, rfl, q⟩
theorem ok_begin {f : Addr} {fd : FuncData} (F : Fun K "begin" "Line.begin" s_Line_begin f fd) (T : Txt K mg CM CL AD)
    (D_is_side : DefOk P w K mg base "is_side" 1 ["number"] spIsSide)
    (D_Match : MakeOk P w K mg base "Match" CM 1 ["self", "ends", "hammer", "seconds"] (spInitM CM)) : FnOk P w K mg base CX0 3 f fd ["self", "ends", "hammer", "seconds"] (spBegin CL CM) := by
  refine F.ok sc_Line_begin (fun vs H Q E h => ?_) (fun cdv A outer s H vs Q E hr h => ?_)
  · obtain ⟨L, s, B, e, h, t, rfl, _⟩ := h
    rfl
  · obtain ⟨L, s, B, e, h, t, rfl, sB, LA, tl⟩ := h
    refine ⟨_, (pss_cons (ps_if (PW.pt (pw_or (pt_not (pt_chain op_le op_le pe_int (pv 1) (pe_gi T.gMOST_ENDS rfl))) (pw_or (pt_not (pt_val (pe_callD D_is_side (by exact hr.mono (by decide)) (by rfl) (pa_cons (pv 2) pa_nil)))) (pw_or1 (pt_not (pt_chain op_le op_le pe_int (pv 3) (pe_gi T.gMOST_SECONDS rfl)))))))
          (pss_one (ps_ret (pe_lst (pa_cons (pe_gi T.gNOT_AS_TOLD rfl) pa_nil))))
          pss_nil)
        (pss_cons (ps_fld (pv 0) (pe_makeD D_Match (by exact hr.mono (by decide)) (by rfl) (pa_cons (pv 1) (pa_cons (pv 2) (pa_cons (pv 3) pa_nil)))) rfl)
        (pss_one (ps_ret (pe_lst (pa_cons pe_int pa_nil)))))), ?_⟩
    have no : (Kg65.within e 1 12 && (Kg65.within h 0 1 && Kg65.within t 1 10000)) = false → Kg65.spec s (.begin_ e h t) = (s, Kg65.num (-1)) := fun z => if_pos z
    refine chain_le rfl ?_
    have ew : (decide ((1 : Int) ≤ e) && decide (e ≤ 12)) = Kg65.within e 1 12 := rfl
    rw [ew]
    cases he : Kg65.within e 1 12 with
    | false =>
      refine iteT ?_
      refine iteT ?_
      exact refuse sB LA tl (no (by rw [he]; rfl))
    | true =>
      refine iteF ?_
      refine ⟨_, rfl, _, rfl, _, rfl, ?_⟩
      cases hh : Kg65.within h 0 1 with
      | false =>
        refine iteT ?_
        refine iteT ?_
        exact refuse sB LA tl (no (by rw [he, hh]; rfl))
      | true =>
        refine iteF ?_
        refine chain_le rfl ?_
        have ew : (decide ((1 : Int) ≤ t) && decide (t ≤ 10000)) = Kg65.within t 1 10000 := rfl
        rw [ew]
        cases ht : Kg65.within t 1 10000 with
        | false =>
          refine iteT ?_
          exact refuse sB LA tl (no (by rw [he, hh, ht]; rfl))
        | true =>
          refine iteF ?_
          have es : Kg65.spec s (.begin_ e h t) = (some (fresh e.toNat h.toNat t), Kg65.num 0) := if_neg (by rw [he, hh, ht]; decide)
          obtain ⟨en, rfl, _, _⟩ := within_nat (by decide) he
          obtain ⟨ha, rfl, _, _⟩ := within_nat (by decide) hh
          rw [Int.toNat_natCast, Int.toNat_natCast] at es
          obtain ⟨dl, v, hL⟩ := LA.ins
          refine ⟨_, rfl, _, rfl, _, rfl, fun x dx nx nd ne => ?_⟩
          have nLx : L ≠ x := ne_of_none hL nx
          have nLd : L ≠ dx := ne_of_none hL nd
          have sA : Same (upd B L (.ins CL dl [("current", v)])) H := same_add sB hL
          have sN : Same H (upd (upd H dx (.own x)) x (.ins CM dx [])) := fun b o hb => by
            rw [upd_ne (ne_of_none hb nx), upd_ne (ne_of_none hb nd)]
            exact hb
          refine ⟨x, dx, en, ha, t, upd B L (.ins CL dl [("current", v)]), rfl, upd_same, sA.trans sN, sA.free nx, fun H1 s1 M1 => ⟨rfl, ?_⟩⟩
          have hL1 := s1 _ _ (upd_same (H := B) (a := L) (o := .ins CL dl [("current", v)]))
          refine ⟨_, rfl, L, CL, dl, _, rfl, hL1, T.clL, T.aCurrent, (by show 1 < 1000; decide), ?_⟩
          rw [put_here]
          obtain ⟨dm, sl, el, ll, qs, ps, M1⟩ := M1
          have bL := LA.free
          have M2 := (M1.less (same_sub bL)).keep hL1 nLx.symm (.ins CL dl [("current", .ref x)])
          have s2 : Same B (upd H1 L (.ins CL dl [("current", .ref x)])) := same_mut ((same_sub bL).trans s1) bL
          have hL2 := upd_same (H := H1) (a := L) (o := .ins CL dl [("current", .ref x)])
          generalize upd H1 L (.ins CL dl [("current", .ref x)]) = H2 at M2 s2 hL2 ⊢
          refine ⟨(by show 1 ≤ sizeLine; decide), fun p np => ?_⟩
          unfold Tell at tl
          rw [es] at tl
          exact tl _ p (s2.trans (same_upd np)) (LineAt.same (s := some _) (same_upd np) ⟨bL, dl, x, hL2, nLx.symm, ⟨dm, sl, el, ll, qs, ps, M2⟩⟩) (s2.free np) upd_same
end
end Cm

namespace Cm
open PySem PySem.Spec PyProof.Rows L2
/-! ### what stays fit -/
theorem Fit.mono {N M : Nat} {g : Game} (F : Fit N g) (h : N ≤ M) : Fit M g := ⟨F.ham, F.len, F.near, Nat.le_trans F.scl h⟩
theorem Fit.settle {N : Nat} {g : Game} (F : Fit N g) : Fit N (settleG g) := by
  unfold settleG
  split
  · exact ⟨F.ham, F.len, F.near, F.scl⟩
  · exact ⟨F.ham, F.len, F.near, F.scl⟩
theorem Fit.close {N : Nat} {g : Game} (F : Fit N g) : Fit (N + 1) g.close := by
  rw [close_is]
  have O := F.over (hamOf g) (hamOf_le g F.ham)
  split
  · exact O
  · exact O.settle
theorem Fit.deliver {N : Nat} {g : Game} (F : Fit N g) {now : List Stone} (hl : now.length ≤ 20) (hn : ∀ s ∈ now, Near s) : Fit (N + 1) (g.deliver now) := by
  have h : Fit N { g with stones := if g.breaks now = true then g.stones else now, count := g.count + 1 } := by
    refine ⟨F.ham, ?_, ?_, F.scl⟩
    · show (if g.breaks now = true then g.stones else now).length ≤ 20
      split
      · exact F.len
      · exact hl
    · show ∀ s ∈ (if g.breaks now = true then g.stones else now), Near s
      split
      · exact F.near
      · exact hn
  have key : ∀ q : Game, Fit N q → Fit (N + 1) (if q.count = 16 then q.close else q) := fun q hq => by
    split
    · exact hq.close
    · exact hq.mono (Nat.le_succ N)
  exact key _ h
theorem Fit.time {N : Nat} {g : Game} (F : Fit N g) (side : Nat) (t : Int) : Fit N (timeG g side t) := by
  have h : Fit N (timeH g side t) := by
    unfold timeH
    split
    · exact ⟨F.ham, F.len, F.near, F.scl⟩
    · exact ⟨F.ham, F.len, F.near, F.scl⟩
  unfold timeG
  split
  · exact ⟨h.ham, h.len, h.near, h.scl⟩
  · exact h
theorem near_of {t : Int × Int × Int} (h : okT t = true) : Near (mkS t) := by
  unfold okT Kg65.within at h
  simp only [Bool.and_eq_true, decide_eq_true_iff] at h
  exact ⟨h.2.1.1, h.2.1.2, h.2.2.1, h.2.2.2⟩
theorem sv_of {t : Int × Int × Int} (h : okT t = true) : ([.int t.1, .int t.2.1, .int t.2.2] : List V) = sv (mkS t) := by
  unfold okT Kg65.within at h
  simp only [Bool.and_eq_true, decide_eq_true_iff] at h
  unfold sv mkS
  have : ((t.1.toNat : Nat) : Int) = t.1 := Int.toNat_of_nonneg h.1.1
  rw [this]
section
variable {P : Program} {w : World} {K : PySem.W.Frag} {mg : Str → Option Value} {base : Heap} {CM CL AD : Addr}
theorem cur_no {m : Str} {v : V} (h : (m == ("current" : Str)) = false) : List.lookup m [(("current" : Str), v)] = none := (lk_past h).trans rfl
theorem ok_deliverL {f : Addr} {fd : FuncData} (F : Fun K "deliver" "Line.deliver" s_Line_deliver f fd) (T : Txt K mg CM CL AD)
    (D_are_stones : DefOk P w K mg base "are_stones" 2 ["numbers"] (spAreStones K))
    (D_stones_of : DefOk P w K mg base "stones_of" 1 ["numbers"] (spStonesOf K))
    (L_goes_on : MethOk P w K mg base CL "goes_on" 2 ["self"] (spGoes CL CM))
    (M_can_lie : MethOk P w K mg base CM "can_lie" 3 ["self", "stones"] (spCanLie CM))
    (M_deliver : MethOk P w K mg base CM "deliver" 6 ["self", "stones"] (spDeliver CM))
    (M_standing : MethOk P w K mg base CM "standing" 2 ["self"] (spTell CM Kg65.told)) : FnOk P w K mg base CX0 7 f fd ["self", "numbers"] (spDeliverL K CL CM) := by
  refine F.ok sc_Line_deliver (fun vs H Q E h => ?_) (fun cdv A outer s H vs Q E hr h => ?_)
  · obtain ⟨L, s, B, N, a, ns, rfl, _⟩ := h
    rfl
  · obtain ⟨L, s, B, N, a, ns, rfl, sB, LA, FS, hN, ha, hl, tl⟩ := h
    refine ⟨_, (pss_cons (ps_if (pt_not (pt_val (pe_callD D_are_stones (by exact hr.mono (by decide)) (by rfl) (pa_cons (pv 1) pa_nil))))
          (pss_one (ps_ret (pe_lst (pa_cons (pe_gi T.gNOT_AS_TOLD rfl) pa_nil))))
          pss_nil)
        (pss_cons (ps_if (pt_not (pt_val (pe_meth0D (pv 0) T.clL L_goes_on (by exact hr.mono (by decide)))))
          (pss_one (ps_ret (pe_lst (pa_cons (pe_gi T.gNO_MATCH rfl) pa_nil))))
          pss_nil)
        (pss_cons (ps_set (i := 2) sc_Line_deliver.nd rfl (Or.inl rfl) (pe_callD D_stones_of (by exact hr.mono (by decide)) (by rfl) (pa_cons (pv 1) pa_nil)))
        (pss_cons (ps_if (pt_not (pt_val (pe_methD (pe_fld (pv 0) rfl) T.clM M_can_lie (by exact hr.mono (by decide)) (pa_cons (pv 2) pa_nil))))
          (pss_one (ps_ret (pe_lst (pa_cons (pe_gi T.gCANNOT_LIE_SO rfl) pa_nil))))
          pss_nil)
        (pss_cons (ps_set (i := 3) sc_Line_deliver.nd rfl (Or.inl rfl) (pe_methD (pe_fld (pv 0) rfl) T.clM M_deliver (by exact hr.mono (by decide)) (pa_cons (pv 2) pa_nil)))
        (pss_one (ps_ret (pe_op op_cat (pe_lst (pa_cons (pe_ifExp (pt_val (pv 3)) pe_int pe_int) pa_nil)) (pe_meth0D (pe_fld (pv 0) rfl) T.clM M_standing (by exact hr.mono (by decide))))))))))), ?_⟩
    refine ⟨_, rfl, a, ns, rfl, ha, hl, fun H1 s1 => ⟨_, rfl, ?_⟩⟩
    have LA1 := LA.same s1
    have sB1 := sB.trans s1
    cases hs : Kg65.stonesOf ns with
    | none =>
      refine iteT ?_
      have es : Kg65.spec s (.deliver ns) = (s, Kg65.num (-1)) := by
        show (match Kg65.stonesOf ns with | none => _ | some now => _) = _
        rw [hs]
      exact refuse sB1 LA1 tl es
    | some now =>
      refine iteF ?_
      have eg : Kg65.spec s (.deliver ns) = Kg65.onGame s fun g => if g.couldBe now = false then (s, Kg65.num (-4)) else (some (g.deliver now), ⟨Kg65.truth (g.breaks now), Kg65.told (g.deliver now)⟩) := by
        show (match Kg65.stonesOf ns with | none => _ | some now => _) = _
        rw [hs]
      obtain ⟨dl, v, hL1⟩ := LA1.ins
      refine ⟨_, rfl, L, dl, _, rfl, hL1, cur_no (by decide +kernel), L, s, B, rfl, LA1, _, rfl, ?_⟩
      cases hg : goes s with
      | false =>
        refine iteT ?_
        exact refuse sB1 LA1 tl (eg.trans (onGame_no hg))
      | true =>
        refine iteF ?_
        obtain ⟨g, rfl, eo⟩ := onGame_go (f := fun g => if g.couldBe now = false then (s, Kg65.num (-4)) else (some (g.deliver now), ⟨Kg65.truth (g.breaks now), Kg65.told (g.deliver now)⟩)) hg
        have eg := eg.trans eo
        have FT := FS g rfl
        have hs3 := stonesOf_is ns
        rw [hs] at hs3
        have hok : (decide (ns.length % 3 = 0) && (triples ns).all okT) = true := by
          cases e : (decide (ns.length % 3 = 0) && (triples ns).all okT) with
          | true => rfl
          | false =>
            rw [e] at hs3
            cases hs3
        rw [if_pos hok] at hs3
        have en := Option.some.inj hs3
        rw [Bool.and_eq_true, decide_eq_true_iff, List.all_eq_true] at hok
        refine ⟨_, rfl, a, ns, ns.length / 3, rfl, s1.seq ha, by omega, by omega, fun H2 p ts s2 np ep et em => ?_⟩
        have okt : ∀ t ∈ ts, okT t.2 = true := fun t ht => hok.2 _ (em ▸ List.mem_map.mpr ⟨t, ht, rfl⟩)
        have SA : StonesAt H2 p (ts.map fun t => (t.1, mkS t.2)) := ⟨by
          rw [ep, List.map_map]
          rfl, fun q hq => by
          obtain ⟨t, ht, rfl⟩ := List.mem_map.mp hq
          show H2 t.1 = some (.tup (sv (mkS t.2)))
          rw [← sv_of (okt t ht)]
          exact et t ht⟩
        have enow : (ts.map fun t => (t.1, mkS t.2)).map (·.2) = now := by
          rw [List.map_map, en, ← em, List.map_map]
          rfl
        have nears : Nears (ts.map fun t => (t.1, mkS t.2)) := fun q hq => by
          obtain ⟨t, ht, rfl⟩ := List.mem_map.mp hq
          exact near_of (okt t ht)
        have hlen : (ts.map fun t => (t.1, mkS t.2)).length ≤ 20 := by
          have : ts.length = (triples ns).length := by rw [← em, List.length_map]
          rw [List.length_map, this, triples_len]
          omega
        generalize (ts.map fun t => (t.1, mkS t.2)) = ss at SA enow nears hlen
        obtain ⟨bL, dl2, m, hL1', nm, M1⟩ := LA1
        obtain ⟨dm, sl, el, ll, qs, ps, M1⟩ := M1
        have e2 := hL1.symm.trans hL1'
        cases e2
        have M2 := M1.same s2
        have hL2 := s2 _ _ hL1
        have sB2 := sB1.trans s2
        refine ⟨_, rfl, L, CL, dl, _, _, rfl, hL2, T.clL, T.aCurrent, lk_here, m, dm, _, rfl, M2.ins, mF_no (by decide +kernel), _, rfl,
          m, p, g, B, N, ss, rfl, ⟨dm, sl, el, ll, qs, ps, M2⟩, FT, Nat.le_of_lt hN, SA, nears, hlen, fun H3 s3 => ⟨_, rfl, ?_⟩⟩
        have M3 := M2.same s3
        have hL3 := s3 _ _ hL2
        have sB3 := sB2.trans s3
        have A3 : LineAt CL CM B H3 L (some g) := ⟨bL, dl, m, hL3, nm, ⟨dm, sl, el, ll, qs, ps, M3⟩⟩
        rw [enow]
        cases hc : g.couldBe now with
        | false =>
          refine iteT ?_
          exact refuse sB3 A3 tl (eg.trans (if_pos hc))
        | true =>
          refine iteF ?_
          have es : Kg65.spec (some g) (.deliver ns) = (some (g.deliver now), ⟨Kg65.truth (g.breaks now), Kg65.told (g.deliver now)⟩) := eg.trans (if_neg (by rw [hc]; decide))
          have hd : (now.map Kg65.Stone.number).Nodup := by
            unfold Kg65.Game.couldBe at hc
            rw [Bool.and_eq_true] at hc
            exact of_decide_eq_true hc.1
          have bp := sB1.free np
          have nLp : p ≠ L := (ne_of_none hL1 np).symm
          have M3' := M3.more hL3 nm (.ins CL dl [("current", .ref m)])
          refine ⟨_, rfl, L, CL, dl, _, _, rfl, hL3, T.clL, T.aCurrent, lk_here, m, dm, _, rfl, M3.ins, mF_no (by decide +kernel), _, rfl,
            m, p, g, upd B L (.ins CL dl [("current", .ref m)]), N, ss, rfl, FT, hN, same_add sB3 hL3, ⟨dm, sl, el, ll, qs, ps, M3'⟩, SA.same s3, nears, hlen, by rw [enow]; exact hd, ?_, ?_, fun H4 s4 M4 => ?_⟩
          · rw [upd_ne nLp]
            exact bp
          · intro dx sl2 el2 ll2 qs2 ps2 M5
            obtain ⟨rfl, rfl⟩ := M3.inj M5
            exact ⟨(ne_of_none M1.secs np).symm, (ne_of_none M1.ended np).symm⟩
          rw [enow] at M4 ⊢
          have sB4 := (same_sub bL).trans s4
          have M4 := M4.less (same_sub bL)
          have hL4 := s4 _ _ (upd_same (H := B) (a := L) (o := .ins CL dl [("current", .ref m)]))
          have F4 := FT.deliver (now := now) (by rw [← enow, List.length_map]; exact hlen) (fun x hx => by
            rw [← enow] at hx
            obtain ⟨q, hq, rfl⟩ := List.mem_map.mp hx
            exact nears q hq)
          unfold Tell at tl
          rw [es] at tl
          refine ⟨_, rfl, _, rfl, ifC ?_⟩
          refine ⟨(by show 1 ≤ sizeLine; decide), fun r nr => ?_⟩
          have s5 : Same H4 _ := same_upd (o := .lst [.int (Kg65.truth (g.breaks now))]) nr
          have er := upd_same (H := H4) (a := r) (o := .lst [.int (Kg65.truth (g.breaks now))])
          generalize upd H4 r (.lst [.int (Kg65.truth (g.breaks now))]) = H5 at s5 er ⊢
          have M5 := M4.same s5
          have hL5 := s5 _ _ hL4
          obtain ⟨dm5, sl5, el5, ll5, qs5, ps5, I5⟩ := M5
          refine ⟨_, rfl, L, CL, dl, _, _, rfl, hL5, T.clL, T.aCurrent, lk_here, m, dm5, _, rfl, I5.ins, mF_no (by decide +kernel),
            m, g.deliver now, B, N + 1, rfl, ⟨dm5, sl5, el5, ll5, qs5, ps5, I5⟩, F4, hN, fun H6 r6 s6 n6 e6 => ?_⟩
          refine ⟨r, r6, _, _, rfl, rfl, s6 _ _ er, e6, (by show 1 + 6 ≤ sizeLine; decide), fun r7 n7 => ?_⟩
          have sB6 := (sB4.trans s5).trans s6
          refine tl _ r7 (sB6.trans (same_upd n7)) (LineAt.same (s := some _) (same_upd n7) ⟨bL, dl, m, s6 _ _ hL5, nm, ⟨dm5, sl5, el5, ll5, qs5, ps5, I5.same s6⟩⟩) (sB6.free n7) ?_
          rw [upd_same]
          rfl
theorem ok_timeL {f : Addr} {fd : FuncData} (F : Fun K "time" "Line.time" s_Line_time f fd) (T : Txt K mg CM CL AD)
    (D_is_side : DefOk P w K mg base "is_side" 1 ["number"] spIsSide)
    (L_goes_on : MethOk P w K mg base CL "goes_on" 2 ["self"] (spGoes CL CM))
    (M_take_time : MethOk P w K mg base CM "take_time" 2 ["self", "side", "seconds"] (spTime CM))
    (M_standing : MethOk P w K mg base CM "standing" 2 ["self"] (spTell CM Kg65.told)) : FnOk P w K mg base CX0 3 f fd ["self", "side", "seconds"] (spTimeL CL CM) := by
  refine F.ok sc_Line_time (fun vs H Q E h => ?_) (fun cdv A outer s H vs Q E hr h => ?_)
  · obtain ⟨L, s, B, N, side, t, rfl, _⟩ := h
    rfl
  · obtain ⟨L, s, B, N, side, t, rfl, sB, LA, FS, hN, tl⟩ := h
    refine ⟨_, (pss_cons (ps_if (PW.pt (pw_or (pt_not (pt_val (pe_callD D_is_side (by exact hr.mono (by decide)) (by rfl) (pa_cons (pv 1) pa_nil)))) (pw_or1 (pt_not (pt_chain op_le op_le pe_int (pv 2) (pe_gi T.gMOST_SECONDS rfl))))))
          (pss_one (ps_ret (pe_lst (pa_cons (pe_gi T.gNOT_AS_TOLD rfl) pa_nil))))
          pss_nil)
        (pss_cons (ps_if (pt_not (pt_val (pe_meth0D (pv 0) T.clL L_goes_on (by exact hr.mono (by decide)))))
          (pss_one (ps_ret (pe_lst (pa_cons (pe_gi T.gNO_MATCH rfl) pa_nil))))
          pss_nil)
        (pss_cons (ps_set (i := 3) sc_Line_time.nd rfl (Or.inl rfl) (pe_methD (pe_fld (pv 0) rfl) T.clM M_take_time (by exact hr.mono (by decide)) (pa_cons (pv 1) (pa_cons (pv 2) pa_nil))))
        (pss_one (ps_ret (pe_op op_cat (pe_lst (pa_cons (pv 3) pa_nil)) (pe_meth0D (pe_fld (pv 0) rfl) T.clM M_standing (by exact hr.mono (by decide))))))))), ?_⟩
    have no : (Kg65.within side 0 1 && Kg65.within t 0 10000) = false → Kg65.spec s (.time side t) = (s, Kg65.num (-1)) := fun z => if_pos z
    refine ⟨_, rfl, _, rfl, _, rfl, ?_⟩
    cases hh : Kg65.within side 0 1 with
    | false =>
      refine iteT ?_
      refine iteT ?_
      exact refuse sB LA tl (no (by rw [hh]; rfl))
    | true =>
      refine iteF ?_
      refine chain_le rfl ?_
      have ew : (decide ((0 : Int) ≤ t) && decide (t ≤ 10000)) = Kg65.within t 0 10000 := rfl
      rw [ew]
      cases ht : Kg65.within t 0 10000 with
      | false =>
        refine iteT ?_
        exact refuse sB LA tl (no (by rw [hh, ht]; rfl))
      | true =>
        refine iteF ?_
        obtain ⟨sd, rfl, _, hs1⟩ := within_nat (by decide) hh
        have hs1 : sd ≤ 1 := by omega
        have eg : Kg65.spec s (.time sd t) = Kg65.onGame s fun g => (some (timeG g sd t), ⟨leftOf g sd t, Kg65.told (timeG g sd t)⟩) := by
          refine (if_neg (by rw [hh, ht]; decide)).trans ?_
          match sd, hs1 with
          | 0, _ => rfl
          | 1, _ => rfl
        obtain ⟨dl, v, hL⟩ := LA.ins
        refine ⟨_, rfl, L, dl, _, rfl, hL, cur_no (by decide +kernel), L, s, B, rfl, LA, _, rfl, ?_⟩
        cases hg : goes s with
        | false =>
          refine iteT ?_
          exact refuse sB LA tl (eg.trans (onGame_no hg))
        | true =>
          refine iteF ?_
          obtain ⟨g, rfl, eo⟩ := onGame_go (f := fun g => (some (timeG g sd t), ⟨leftOf g sd t, Kg65.told (timeG g sd t)⟩)) hg
          have es := eg.trans eo
          have FT := FS g rfl
          obtain ⟨bL, dl2, m, hL', nm, ⟨dm, sl, el, ll, qs, ps, M⟩⟩ := LA
          have e2 := hL.symm.trans hL'
          cases e2
          refine ⟨_, rfl, L, CL, dl, _, _, rfl, hL, T.clL, T.aCurrent, lk_here, m, dm, _, rfl, M.ins, mF_no (by decide +kernel), _, rfl, _, rfl,
            m, g, upd B L (.ins CL dl [("current", .ref m)]), sd, t, rfl, hs1, same_add sB hL, ⟨dm, sl, el, ll, qs, ps, M.more hL nm _⟩, fun H4 s4 M4 => ?_⟩
          have sB4 := (same_sub bL).trans s4
          have M4 := M4.less (same_sub bL)
          have hL4 := s4 _ _ (upd_same (H := B) (a := L) (o := .ins CL dl [("current", .ref m)]))
          have F4 := FT.time sd t
          unfold Tell at tl
          rw [es] at tl
          refine ⟨_, rfl, (by show 1 ≤ sizeLine; decide), fun r nr => ?_⟩
          have s5 : Same H4 _ := same_upd (o := .lst [.int (leftOf g sd t)]) nr
          have er := upd_same (H := H4) (a := r) (o := .lst [.int (leftOf g sd t)])
          generalize upd H4 r (.lst [.int (leftOf g sd t)]) = H5 at s5 er ⊢
          have M5 := M4.same s5
          have hL5 := s5 _ _ hL4
          obtain ⟨dm5, sl5, el5, ll5, qs5, ps5, I5⟩ := M5
          refine ⟨_, rfl, L, CL, dl, _, _, rfl, hL5, T.clL, T.aCurrent, lk_here, m, dm5, _, rfl, I5.ins, mF_no (by decide +kernel),
            m, timeG g sd t, B, N, rfl, ⟨dm5, sl5, el5, ll5, qs5, ps5, I5⟩, F4, Nat.le_of_lt hN, fun H6 r6 s6 n6 e6 => ?_⟩
          refine ⟨r, r6, _, _, rfl, rfl, s6 _ _ er, e6, (by show 1 + 6 ≤ sizeLine; decide), fun r7 n7 => ?_⟩
          have sB6 := (sB4.trans s5).trans s6
          refine tl _ r7 (sB6.trans (same_upd n7)) (LineAt.same (s := some _) (same_upd n7) ⟨bL, dl, m, s6 _ _ hL5, nm, ⟨dm5, sl5, el5, ll5, qs5, ps5, I5.same s6⟩⟩) (sB6.free n7) ?_
          rw [upd_same]
          rfl
theorem ok_giveL {f : Addr} {fd : FuncData} (F : Fun K "give" "Line.give" s_Line_give f fd) (T : Txt K mg CM CL AD)
    (D_is_side : DefOk P w K mg base "is_side" 1 ["number"] spIsSide)
    (L_goes_on : MethOk P w K mg base CL "goes_on" 2 ["self"] (spGoes CL CM))
    (M_lose : MethOk P w K mg base CM "lose" 1 ["self", "side"] (spLose CM))
    (M_standing : MethOk P w K mg base CM "standing" 2 ["self"] (spTell CM Kg65.told)) : FnOk P w K mg base CX0 3 f fd ["self", "side"] (spGiveL CL CM) := by
  refine F.ok sc_Line_give (fun vs H Q E h => ?_) (fun cdv A outer s H vs Q E hr h => ?_)
  · obtain ⟨L, s, B, N, side, rfl, _⟩ := h
    rfl
  · obtain ⟨L, s, B, N, side, rfl, sB, LA, FS, hN, tl⟩ := h
    refine ⟨_, (pss_cons (ps_if (pt_not (pt_val (pe_callD D_is_side (by exact hr.mono (by decide)) (by rfl) (pa_cons (pv 1) pa_nil))))
          (pss_one (ps_ret (pe_lst (pa_cons (pe_gi T.gNOT_AS_TOLD rfl) pa_nil))))
          pss_nil)
        (pss_cons (ps_if (pt_not (pt_val (pe_meth0D (pv 0) T.clL L_goes_on (by exact hr.mono (by decide)))))
          (pss_one (ps_ret (pe_lst (pa_cons (pe_gi T.gNO_MATCH rfl) pa_nil))))
          pss_nil)
        (pss_cons (ps_expr (pe_methD (pe_fld (pv 0) rfl) T.clM M_lose (by exact hr.mono (by decide)) (pa_cons (pv 1) pa_nil)))
        (pss_one (ps_ret (pe_op op_cat (pe_lst (pa_cons pe_int pa_nil)) (pe_meth0D (pe_fld (pv 0) rfl) T.clM M_standing (by exact hr.mono (by decide))))))))), ?_⟩
    refine ⟨_, rfl, _, rfl, _, rfl, ?_⟩
    cases hh : Kg65.within side 0 1 with
    | false =>
      refine iteT ?_
      exact refuse sB LA tl (if_pos hh)
    | true =>
      refine iteF ?_
      obtain ⟨sd, rfl, _, hs1⟩ := within_nat (by decide) hh
      have hs1 : sd ≤ 1 := by omega
      have eg : Kg65.spec s (.give sd) = Kg65.onGame s fun g => (some { g with won := some (1 - sd) }, ⟨0, Kg65.told { g with won := some (1 - sd) }⟩) := by
        refine (if_neg (by rw [hh]; decide)).trans ?_
        rfl
      obtain ⟨dl, v, hL⟩ := LA.ins
      refine ⟨_, rfl, L, dl, _, rfl, hL, cur_no (by decide +kernel), L, s, B, rfl, LA, _, rfl, ?_⟩
      cases hg : goes s with
      | false =>
        refine iteT ?_
        exact refuse sB LA tl (eg.trans (onGame_no hg))
      | true =>
        refine iteF ?_
        obtain ⟨g, rfl, eo⟩ := onGame_go (f := fun g => (some { g with won := some (1 - sd) }, ⟨0, Kg65.told { g with won := some (1 - sd) }⟩)) hg
        have es := eg.trans eo
        have FT := FS g rfl
        obtain ⟨bL, dl2, m, hL', nm, ⟨dm, sl, el, ll, qs, ps, M⟩⟩ := LA
        have e2 := hL.symm.trans hL'
        cases e2
        refine ⟨_, rfl, L, CL, dl, _, _, rfl, hL, T.clL, T.aCurrent, lk_here, m, dm, _, rfl, M.ins, mF_no (by decide +kernel), _, rfl,
          m, g, upd B L (.ins CL dl [("current", .ref m)]), sd, rfl, hs1, same_add sB hL, ⟨dm, sl, el, ll, qs, ps, M.more hL nm _⟩, fun H4 s4 M4 => ?_⟩
        have sB4 := (same_sub bL).trans s4
        have M4 := M4.less (same_sub bL)
        have hL4 := s4 _ _ (upd_same (H := B) (a := L) (o := .ins CL dl [("current", .ref m)]))
        have F4 : Fit N { g with won := some (1 - sd) } := ⟨FT.ham, FT.len, FT.near, FT.scl⟩
        unfold Tell at tl
        rw [es] at tl
        refine ⟨(by show 1 ≤ sizeLine; decide), fun r nr => ?_⟩
        have s5 : Same H4 _ := same_upd (o := .lst [.int 0]) nr
        have er := upd_same (H := H4) (a := r) (o := .lst [.int 0])
        generalize upd H4 r (.lst [.int 0]) = H5 at s5 er ⊢
        have M5 := M4.same s5
        have hL5 := s5 _ _ hL4
        obtain ⟨dm5, sl5, el5, ll5, qs5, ps5, I5⟩ := M5
        refine ⟨_, rfl, L, CL, dl, _, _, rfl, hL5, T.clL, T.aCurrent, lk_here, m, dm5, _, rfl, I5.ins, mF_no (by decide +kernel),
          m, { g with won := some (1 - sd) }, B, N, rfl, ⟨dm5, sl5, el5, ll5, qs5, ps5, I5⟩, F4, Nat.le_of_lt hN, fun H6 r6 s6 n6 e6 => ?_⟩
        refine ⟨r, r6, _, _, rfl, rfl, s6 _ _ er, e6, (by show 1 + 6 ≤ sizeLine; decide), fun r7 n7 => ?_⟩
        have sB6 := (sB4.trans s5).trans s6
        refine tl _ r7 (sB6.trans (same_upd n7)) (LineAt.same (s := some _) (same_upd n7) ⟨bL, dl, m, s6 _ _ hL5, nm, ⟨dm5, sl5, el5, ll5, qs5, ps5, I5.same s6⟩⟩) (sB6.free n7) ?_
        rw [upd_same]
        rfl
end
end Cm

namespace Cm
open PySem PySem.Spec PyProof.Rows L2
/-! ### the list of calls, call by call -/
def CallIs (c : Int) (xs : List Int) : Kg65.Call → Prop
  | .begin_ e h t => c = 1 ∧ xs = [e, h, t]
  | .deliver l => c = 2 ∧ xs = l ∧ l.length ≤ 60
  | .time s t => c = 3 ∧ xs = [s, t]
  | .give s => c = 4 ∧ xs = [s]
  | .now => c = 5
  | .stones => c = 6
  | .scores => c = 7
  | .shot => c = 8
theorem whole_is (c : List (List Int)) : PyKg65.whole c = c := by
  unfold PyKg65.whole
  split <;> rfl
/-- one call: how far its numbers stand from its place, how many they are, what it is -/
def OneIs (p : Int) (r : List Int) (c : List (List Int)) (t : List Int) : Prop := ∃ (o len : Nat) (k : Kg65.Call),
  ((∃ n : Int, p = 2 ∧ r[0]? = some n ∧ 0 ≤ n ∧ o = 2 ∧ len = n.toNat) ∨ ∃ w : Int, p ≠ 2 ∧ (p, w) ∈ wnTab ∧ 0 ≤ w ∧ o = 1 ∧ len = w.toNat) ∧
  o + len ≤ (p :: r).length ∧ t = (p :: r).drop (o + len) ∧ CallIs p (((p :: r).drop o).take len) k ∧ Kg65Neutral.callOf c = some k
theorem one_plain {p : Int} {r : List Int} {c : List (List Int)} {t : List Int} {n : Nat} {k : Kg65.Call} (h2 : p ≠ 2) (hw : (p, (n : Int)) ∈ wnTab) (hl : n ≤ r.length) (hc : c = [p :: r.take n]) (ht : t = r.drop n)
    (hk : CallIs p (r.take n) k) (ho : Kg65Neutral.callOf c = some k) : OneIs p r c t := by
  refine ⟨1, n, k, .inr ⟨n, h2, hw, by omega, rfl, rfl⟩, ?_, ?_, hk, ho⟩
  · show 1 + n ≤ r.length + 1
    omega
  · rw [ht, Nat.add_comm]
    rfl
theorem call_plain {p : Int} {r : List Int} {c : List (List Int)} {t : List Int} {n : Nat} (hs : PyKg65.shape p = some (n, 0)) (h : PyFlat.call PyKg65.shape (p :: r) = some (c, t)) : n ≤ r.length ∧ c = [p :: r.take n] ∧ t = r.drop n := by
  unfold PyFlat.call at h
  simp only [hs] at h
  by_cases hl : r.length < n
  · rw [if_pos hl] at h
    cases h
  · rw [if_neg hl] at h
    simp only [PyFlat.rows, Option.some.injEq, Prod.mk.injEq] at h
    exact ⟨Nat.le_of_not_lt hl, h.1.symm, h.2.symm⟩
theorem parse_one (p : Int) (r : List Int) (c : List (List Int)) (t : List Int) (h : PyFlat.call PyKg65.shape (p :: r) = some (c, t)) (ha : Kg65Neutral.asked1 c = true) : OneIs p r c t := by
  by_cases h1 : p = 1
  · subst h1
    obtain ⟨hl, hc, ht⟩ := call_plain (n := 3) rfl h
    match r, hl, hc, ht with
    | a :: b :: d :: r, hl, hc, ht => exact one_plain (n := 3) (k := .begin_ a b d) (by decide) (by decide) hl hc ht ⟨rfl, rfl⟩ (by rw [hc]; rfl)
  by_cases h2 : p = 2
  · subst h2
    unfold PyFlat.call at h
    have hs : PyKg65.shape 2 = some (0, 1) := rfl
    simp only [hs] at h
    rw [if_neg (Nat.not_lt_zero _)] at h
    cases r with
    | nil => simp [PyFlat.rows, PyFlat.row] at h
    | cons n r =>
      by_cases hn : 0 ≤ n ∧ n.toNat ≤ r.length
      · simp only [PyFlat.rows, PyFlat.row, List.drop_zero, if_pos hn, List.take_zero, Option.some.injEq, Prod.mk.injEq] at h
        obtain ⟨hc, ht⟩ := h
        subst hc ht
        have hl : (r.take n.toNat).length ≤ 60 := by
          have : Kg65Neutral.row (r.take n.toNat) 60 = true := ha
          unfold Kg65Neutral.row at this
          rw [Bool.and_eq_true] at this
          exact of_decide_eq_true this.2
        refine ⟨2, n.toNat, .deliver (r.take n.toNat), .inl ⟨n, rfl, rfl, hn.1, rfl, rfl⟩, ?_, ?_, ⟨rfl, rfl, hl⟩, rfl⟩
        · show 2 + n.toNat ≤ r.length + 1 + 1
          omega
        · rw [Nat.add_comm]
          rfl
      · simp only [PyFlat.rows, PyFlat.row, List.drop_zero, if_neg hn] at h
        cases h
  by_cases h3 : p = 3
  · subst h3
    obtain ⟨hl, hc, ht⟩ := call_plain (n := 2) rfl h
    match r, hl, hc, ht with
    | a :: b :: r, hl, hc, ht => exact one_plain (n := 2) (k := .time a b) (by decide) (by decide) hl hc ht ⟨rfl, rfl⟩ (by rw [hc]; rfl)
  by_cases h4 : p = 4
  · subst h4
    obtain ⟨hl, hc, ht⟩ := call_plain (n := 1) rfl h
    match r, hl, hc, ht with
    | a :: r, hl, hc, ht => exact one_plain (n := 1) (k := .give a) (by decide) (by decide) hl hc ht ⟨rfl, rfl⟩ (by rw [hc]; rfl)
  by_cases h5 : p = 5
  · subst h5
    obtain ⟨hl, hc, ht⟩ := call_plain (n := 0) rfl h
    exact one_plain (n := 0) (k := .now) (by decide) (by decide) hl hc ht rfl (by rw [hc]; rfl)
  by_cases h6 : p = 6
  · subst h6
    obtain ⟨hl, hc, ht⟩ := call_plain (n := 0) rfl h
    exact one_plain (n := 0) (k := .stones) (by decide) (by decide) hl hc ht rfl (by rw [hc]; rfl)
  by_cases h7 : p = 7
  · subst h7
    obtain ⟨hl, hc, ht⟩ := call_plain (n := 0) rfl h
    exact one_plain (n := 0) (k := .scores) (by decide) (by decide) hl hc ht rfl (by rw [hc]; rfl)
  by_cases h8 : p = 8
  · subst h8
    obtain ⟨hl, hc, ht⟩ := call_plain (n := 0) rfl h
    exact one_plain (n := 0) (k := .shot) (by decide) (by decide) hl hc ht rfl (by rw [hc]; rfl)
  · have hs : PyKg65.shape p = none := by
      unfold PyKg65.shape
      rw [if_neg h1, if_neg h2, if_neg h3, if_neg h4, if_neg h5, if_neg h6, if_neg h7, if_neg h8]
    unfold PyFlat.call at h
    simp only [hs] at h
    cases h
theorem calls_cons {f : Nat} {p : Int} {r : List Int} {cs : List (List (List Int))} (h : PyFlat.calls PyKg65.shape f (p :: r) = some cs) :
    ∃ f' c t cs', PyFlat.call PyKg65.shape (p :: r) = some (c, t) ∧ PyFlat.calls PyKg65.shape f' t = some cs' ∧ cs = c :: cs' := by
  cases f with
  | zero => cases h
  | succ f =>
    unfold PyFlat.calls at h
    cases hc : PyFlat.call PyKg65.shape (p :: r) with
    | none =>
      rw [hc] at h
      cases h
    | some x =>
      obtain ⟨c, t⟩ := x
      rw [hc] at h
      simp only at h
      cases hr : PyFlat.calls PyKg65.shape f t with
      | none =>
        rw [hr] at h
        cases h
      | some cs' =>
        rw [hr] at h
        exact ⟨f, c, t, cs', rfl, hr, (Option.some.inj h).symm⟩
theorem calls_nil {f : Nat} {cs : List (List (List Int))} (h : PyFlat.calls PyKg65.shape f [] = some cs) : cs = [] := by
  cases f <;> exact (Option.some.inj h).symm
theorem step_is {s : Option Game} {c : List (List Int)} {k : Kg65.Call} (h : Kg65Neutral.callOf c = some k) :
    Kg65Neutral.step s c = ((Kg65.spec s k).1, (Kg65.spec s k).2.value :: (Kg65.spec s k).2.out) := by
  unfold Kg65Neutral.step
  rw [h]
theorem FitS.next {N : Nat} {s : Option Game} (F : FitS N s) {c : Int} {xs : List Int} {k : Kg65.Call} (hk : CallIs c xs k) : FitS (N + 1) (Kg65.spec s k).1 := by
  have up : FitS (N + 1) s := fun g e => (F g e).mono (Nat.le_succ N)
  have on : ∀ (f : Game → Option Game × Kg65.Ans), (∀ g, s = some g → FitS (N + 1) (f g).1) → FitS (N + 1) (Kg65.onGame s f).1 := fun f h => by
    cases hg : goes s with
    | false =>
      rw [onGame_no hg]
      exact up
    | true =>
      obtain ⟨g, e, eo⟩ := onGame_go (f := f) hg
      rw [eo]
      exact h g e
  have one : ∀ g : Game, Fit (N + 1) g → FitS (N + 1) (some g) := fun g h g' e => by
    cases e
    exact h
  cases k with
  | begin_ e h t =>
    show FitS (N + 1) (if (Kg65.within e 1 12 && (Kg65.within h 0 1 && Kg65.within t 1 10000)) = false then (s, Kg65.num (-1)) else _ : Kg65.State × Kg65.Ans).1
    by_cases c : (Kg65.within e 1 12 && (Kg65.within h 0 1 && Kg65.within t 1 10000)) = false
    · rw [if_pos c]
      exact up
    · rw [if_neg c]
      refine one _ ⟨?_, Nat.zero_le _, fun s hs => absurd hs List.not_mem_nil, Nat.zero_le _⟩
      have : (Kg65.within e 1 12 && (Kg65.within h 0 1 && Kg65.within t 1 10000)) = true := by
        revert c
        cases (Kg65.within e 1 12 && (Kg65.within h 0 1 && Kg65.within t 1 10000)) <;> simp
      rw [Bool.and_eq_true, Bool.and_eq_true] at this
      obtain ⟨n, rfl, _, _⟩ := within_nat (by decide) this.2.1
      show ((n : Int)).toNat ≤ 1
      omega
  | deliver l =>
    obtain ⟨_, _, hl⟩ := hk
    show FitS (N + 1) (match Kg65.stonesOf l with | none => (s, Kg65.num (-1)) | some now => Kg65.onGame s fun g => if g.couldBe now = false then (s, Kg65.num (-4)) else (some (g.deliver now), ⟨Kg65.truth (g.breaks now), Kg65.told (g.deliver now)⟩)).1
    rw [stonesOf_is]
    by_cases c : (decide (l.length % 3 = 0) && (triples l).all okT) = true
    · rw [if_pos c]
      refine on _ fun g e => ?_
      by_cases d : g.couldBe ((triples l).map mkS) = false
      · rw [if_pos d]
        exact up
      · rw [if_neg d]
        rw [Bool.and_eq_true, List.all_eq_true] at c
        refine one _ ((F g e).deliver ?_ fun x hx => ?_)
        · rw [List.length_map, triples_len]
          omega
        · obtain ⟨t, ht, rfl⟩ := List.mem_map.mp hx
          exact near_of (c.2 t ht)
    · rw [if_neg c]
      exact up
  | time side t =>
    show FitS (N + 1) (if (Kg65.within side 0 1 && Kg65.within t 0 10000) = false then (s, Kg65.num (-1)) else _ : Kg65.State × Kg65.Ans).1
    by_cases c : (Kg65.within side 0 1 && Kg65.within t 0 10000) = false
    · rw [if_pos c]
      exact up
    · rw [if_neg c]
      refine on _ fun g e => ?_
      have G := (F g e).mono (Nat.le_succ N)
      refine one _ ?_
      show Fit (N + 1) (if _ then _ else _)
      have h : Fit (N + 1) (if side = 0 then { g with timeA := max 0 (g.timeA - t) } else { g with timeB := max 0 (g.timeB - t) }) := by
        split
        · exact ⟨G.ham, G.len, G.near, G.scl⟩
        · exact ⟨G.ham, G.len, G.near, G.scl⟩
      revert h
      generalize (if side = 0 then { g with timeA := max 0 (g.timeA - t) } else { g with timeB := max 0 (g.timeB - t) } : Game) = q
      intro h
      by_cases c2 : (if side = 0 then q.timeA else q.timeB) ≤ 0
      · rw [if_pos c2]
        exact ⟨h.ham, h.len, h.near, h.scl⟩
      · rw [if_neg c2]
        exact h
  | give side =>
    show FitS (N + 1) (if Kg65.within side 0 1 = false then (s, Kg65.num (-1)) else _ : Kg65.State × Kg65.Ans).1
    by_cases c : Kg65.within side 0 1 = false
    · rw [if_pos c]
      exact up
    · rw [if_neg c]
      refine on _ fun g e => ?_
      have G := (F g e).mono (Nat.le_succ N)
      exact one _ ⟨G.ham, G.len, G.near, G.scl⟩
  | now => cases s <;> exact up
  | stones => cases s <;> exact up
  | scores => cases s <;> exact up
  | shot => cases s <;> exact up
end Cm

namespace Cm
open PySem PySem.Spec PyProof.Rows L2
def spCall (K : PySem.W.Frag) (CL CM : Addr) : Sp := fun vs H Q _ => ∃ (L : Addr) (s : Option Game) (B : Hp) (N : Nat) (c : Int) (p : Addr) (xs : List Int) (k : Kg65.Call), vs = [.ref L, .int c, .ref p] ∧ CallIs c xs k ∧ Same B H ∧ LineAt CL CM B H L s ∧
  FitS N s ∧ N < 1000 ∧ SqL K H p (xs.map V.int) ∧ Tell CL CM B L s k Q
/-- another list, that the line doesn't hold, is changed -/
theorem LineAt.apart {CL CM : Addr} {B H : Hp} {L a : Addr} {s : Option Game} {o o' : HO} {xs : List V} (hB : B a = some o') (hH : H a = some (.lst xs)) (A : LineAt CL CM B H L s) : LineAt CL CM (upd B a o) (upd H a o) L s := by
  have nb : ∀ b, B b = none → b ≠ a := fun b h => (ne_of_none hB h).symm
  have nt : ∀ b ys, H b = some (.tup ys) → b ≠ a := fun b ys h => ne_of h hH (by intro z; cases z)
  cases s with
  | none =>
    obtain ⟨b, dx, h⟩ := A
    exact ⟨by rw [upd_ne (nb _ b)]; exact b, dx, by rw [upd_ne (nb _ b)]; exact h⟩
  | some g =>
    obtain ⟨b, dx, m, h, n, dm, sl, el, ll, qs, ps, M⟩ := A
    refine ⟨by rw [upd_ne (nb _ b)]; exact b, dx, m, by rw [upd_ne (nb _ b)]; exact h, n, dm, sl, el, ll, qs, ps, ?_⟩
    refine ⟨?_, ?_, ?_, fun q hq => ?_, ⟨?_, fun p hp => ?_⟩, M.eqs, M.eps, ?_, ?_, ?_, ?_, M.ne1, M.ne2, M.ne3⟩
    · rw [upd_ne (nb _ M.bm)]
      exact M.ins
    · rw [upd_ne (nb _ M.bsl)]
      exact M.secs
    · rw [upd_ne (nb _ M.bel)]
      exact M.ended
    · rw [upd_ne (nt _ _ (M.pairs q hq))]
      exact M.pairs q hq
    · rw [upd_ne (nb _ M.bll)]
      exact M.stones.lst
    · rw [upd_ne (nt _ _ (M.stones.tup p hp))]
      exact M.stones.tup p hp
    · rw [upd_ne (nb _ M.bm)]
      exact M.bm
    · rw [upd_ne (nb _ M.bsl)]
      exact M.bsl
    · rw [upd_ne (nb _ M.bel)]
      exact M.bel
    · rw [upd_ne (nb _ M.bll)]
      exact M.bll
section
variable {P : Program} {w : World} {K : PySem.W.Frag} {mg : Str → Option Value} {base : Heap} {CM CL AD : Addr}
theorem ok_look {f : Addr} {fd : FuncData} (F : Fun K "look" "Line.look" s_Line_look f fd) (T : Txt K mg CM CL AD)
    (M_now : MethOk P w K mg base CM "now" 3 ["self"] (spTell CM nowOf))
    (M_stones : MethOk P w K mg base CM "stones" 4 ["self"] (spTell CM stonesOf))
    (M_scores : MethOk P w K mg base CM "scores" 1 ["self"] (spTell CM scoresOf))
    (M_shot : MethOk P w K mg base CM "shot" 5 ["self"] (spTell CM shotOf)) : FnOk P w K mg base CX0 6 f fd ["self", "call"] (spLook CL CM) := by
  refine F.ok sc_Line_look (fun vs H Q E h => ?_) (fun cdv A outer s H vs Q E hr h => ?_)
  · obtain ⟨L, s, B, N, c, k, rfl, _⟩ := h
    rfl
  · obtain ⟨L, s, B, N, c, k, rfl, hk, sB, LA, FS, hN, tl⟩ := h
    refine ⟨_, (pss_cons (ps_if (pt_cmpR op_isN (pe_fld (pv 0) rfl) pe_non (nomark _))
          (pss_one (ps_ret (pe_lst (pa_cons (pe_gi T.gNO_MATCH rfl) pa_nil))))
          pss_nil)
        (pss_cons (ps_if (pt_cmpR op_eq (pv 1) (pe_gi T.gNOW rfl) (nomark _))
          (pss_one (ps_ret (pe_meth0D (pe_fld (pv 0) rfl) T.clM M_now (by exact hr.mono (by decide)))))
          pss_nil)
        (pss_cons (ps_if (pt_cmpR op_eq (pv 1) (pe_gi T.gSTONES rfl) (nomark _))
          (pss_one (ps_ret (pe_meth0D (pe_fld (pv 0) rfl) T.clM M_stones (by exact hr.mono (by decide)))))
          pss_nil)
        (pss_cons (ps_if (pt_cmpR op_eq (pv 1) (pe_gi T.gSCORES rfl) (nomark _))
          (pss_one (ps_ret (pe_meth0D (pe_fld (pv 0) rfl) T.clM M_scores (by exact hr.mono (by decide)))))
          pss_nil)
        (pss_one (ps_ret (pe_meth0D (pe_fld (pv 0) rfl) T.clM M_shot (by exact hr.mono (by decide))))))))), ?_⟩
    cases s with
    | none =>
      have es : Kg65.spec none k = (none, Kg65.num (-2)) := by
        rcases hk with ⟨_, rfl⟩ | ⟨_, rfl⟩ | ⟨_, rfl⟩ | ⟨_, rfl⟩ <;> rfl
      have LA' := LA
      obtain ⟨_, dx, hL⟩ := LA
      refine ⟨_, rfl, L, CL, dx, _, _, rfl, hL, T.clL, T.aCurrent, lk_here, rfl, _, rfl, ite2 (fun _ => ?_) (fun z => absurd (decide_eq_true rfl) z)⟩
      exact refuse sB LA' tl es
    | some g =>
      have FT := FS g rfl
      obtain ⟨bL, dl, m, hL, nm, ⟨dm, sl, el, ll, qs, ps, M⟩⟩ := LA
      have hn : ¬ V.ref m = V.non := fun z => by cases z
      refine ⟨_, rfl, L, CL, dl, _, _, rfl, hL, T.clL, T.aCurrent, lk_here, rfl, _, rfl, ite2 (fun z => absurd (of_decide_eq_true z) hn) (fun _ => ?_)⟩
      have fin : ∀ {out : Game → List Int}, Kg65.spec (some g) k = (some g, ⟨(out g).headD 0, (out g).tail⟩) → (out g).headD 0 :: (out g).tail = out g →
          ∀ (H' : Hp) (p : Addr), Same H H' → H p = none → H' p = some (.lst ((out g).map V.int)) → Q (.ref p) H' := fun {out} es eo H' p s1 np ep => by
        unfold Tell at tl
        rw [es] at tl
        exact tl H' p (sB.trans s1) (LineAt.same (s := some g) s1 ⟨bL, dl, m, hL, nm, ⟨dm, sl, el, ll, qs, ps, M⟩⟩) (sB.free np) (by rw [ep]; show _ = some (HO.lst (((out g).headD 0 :: (out g).tail).map V.int)); rw [eo])
      rcases hk with ⟨rfl, rfl⟩ | ⟨rfl, rfl⟩ | ⟨rfl, rfl⟩ | ⟨rfl, rfl⟩
      · refine ⟨_, rfl, rfl, _, rfl, ite2 (fun _ => ?_) (fun z => absurd (decide_eq_true rfl) z)⟩
        exact ⟨_, rfl, L, CL, dl, _, _, rfl, hL, T.clL, T.aCurrent, lk_here, m, dm, _, rfl, M.ins, mF_no (by decide +kernel), m, g, B, N, rfl, ⟨dm, sl, el, ll, qs, ps, M⟩, FT, Nat.le_of_lt hN, fin rfl rfl⟩
      · refine ⟨_, rfl, rfl, _, rfl, ite2 (fun z => absurd (V.int.inj (of_decide_eq_true z)) (by decide)) (fun _ => ?_)⟩
        refine ⟨_, rfl, rfl, _, rfl, ite2 (fun _ => ?_) (fun z => absurd (decide_eq_true rfl) z)⟩
        exact ⟨_, rfl, L, CL, dl, _, _, rfl, hL, T.clL, T.aCurrent, lk_here, m, dm, _, rfl, M.ins, mF_no (by decide +kernel), m, g, B, N, rfl, ⟨dm, sl, el, ll, qs, ps, M⟩, FT, Nat.le_of_lt hN, fin rfl rfl⟩
      · refine ⟨_, rfl, rfl, _, rfl, ite2 (fun z => absurd (V.int.inj (of_decide_eq_true z)) (by decide)) (fun _ => ?_)⟩
        refine ⟨_, rfl, rfl, _, rfl, ite2 (fun z => absurd (V.int.inj (of_decide_eq_true z)) (by decide)) (fun _ => ?_)⟩
        refine ⟨_, rfl, rfl, _, rfl, ite2 (fun _ => ?_) (fun z => absurd (decide_eq_true rfl) z)⟩
        exact ⟨_, rfl, L, CL, dl, _, _, rfl, hL, T.clL, T.aCurrent, lk_here, m, dm, _, rfl, M.ins, mF_no (by decide +kernel), m, g, B, N, rfl, ⟨dm, sl, el, ll, qs, ps, M⟩, FT, Nat.le_of_lt hN, fin rfl rfl⟩
      · refine ⟨_, rfl, rfl, _, rfl, ite2 (fun z => absurd (V.int.inj (of_decide_eq_true z)) (by decide)) (fun _ => ?_)⟩
        refine ⟨_, rfl, rfl, _, rfl, ite2 (fun z => absurd (V.int.inj (of_decide_eq_true z)) (by decide)) (fun _ => ?_)⟩
        refine ⟨_, rfl, rfl, _, rfl, ite2 (fun z => absurd (V.int.inj (of_decide_eq_true z)) (by decide)) (fun _ => ?_)⟩
        exact ⟨_, rfl, L, CL, dl, _, _, rfl, hL, T.clL, T.aCurrent, lk_here, m, dm, _, rfl, M.ins, mF_no (by decide +kernel), m, g, B, N, rfl, ⟨dm, sl, el, ll, qs, ps, M⟩, FT, Nat.le_of_lt hN, fin rfl rfl⟩
theorem ok_answer_call {f : Addr} {fd : FuncData} (F : Fun K "answer_call" "answer_call" s_answer_call f fd) (T : Txt K mg CM CL AD)
    (L_begin : MethOk P w K mg base CL "begin" 3 ["self", "ends", "hammer", "seconds"] (spBegin CL CM))
    (L_deliver : MethOk P w K mg base CL "deliver" 7 ["self", "numbers"] (spDeliverL K CL CM))
    (L_time : MethOk P w K mg base CL "time" 3 ["self", "side", "seconds"] (spTimeL CL CM))
    (L_give : MethOk P w K mg base CL "give" 3 ["self", "side"] (spGiveL CL CM))
    (L_look : MethOk P w K mg base CL "look" 6 ["self", "call"] (spLook CL CM)) : FnOk P w K mg base CX0 8 f fd ["line", "call", "numbers"] (spCall K CL CM) := by
  refine F.ok sc_answer_call (fun vs H Q E h => ?_) (fun cdv A outer s H vs Q E hr h => ?_)
  · obtain ⟨L, s, B, N, c, p, xs, k, rfl, _⟩ := h
    rfl
  · obtain ⟨L, s, B, N, c, p, xs, k, rfl, hk, sB, LA, FS, hN, hp, tl⟩ := h
    refine ⟨_, (pss_cons (ps_if (pt_cmpR op_eq (pv 1) (pe_gi T.gBEGIN rfl) (nomark _))
          (pss_one (ps_ret (pe_methD (pv 0) T.clL L_begin (by exact hr.mono (by decide)) (pa_cons (pe_ix (r := rIxL K) ix_list (pv 2) pe_int (fun _ _ => rfl)) (pa_cons (pe_ix (r := rIxL K) ix_list (pv 2) pe_int (fun _ _ => rfl)) (pa_cons (pe_ix (r := rIxL K) ix_list (pv 2) pe_int (fun _ _ => rfl)) pa_nil))))))
          pss_nil)
        (pss_cons (ps_if (pt_cmpR op_eq (pv 1) (pe_gi T.gDELIVER rfl) (nomark _))
          (pss_one (ps_ret (pe_methD (pv 0) T.clL L_deliver (by exact hr.mono (by decide)) (pa_cons (pv 2) pa_nil))))
          pss_nil)
        (pss_cons (ps_if (pt_cmpR op_eq (pv 1) (pe_gi T.gTIME rfl) (nomark _))
          (pss_one (ps_ret (pe_methD (pv 0) T.clL L_time (by exact hr.mono (by decide)) (pa_cons (pe_ix (r := rIxL K) ix_list (pv 2) pe_int (fun _ _ => rfl)) (pa_cons (pe_ix (r := rIxL K) ix_list (pv 2) pe_int (fun _ _ => rfl)) pa_nil)))))
          pss_nil)
        (pss_cons (ps_if (pt_cmpR op_eq (pv 1) (pe_gi T.gGIVE rfl) (nomark _))
          (pss_one (ps_ret (pe_methD (pv 0) T.clL L_give (by exact hr.mono (by decide)) (pa_cons (pe_ix (r := rIxL K) ix_list (pv 2) pe_int (fun _ _ => rfl)) pa_nil))))
          pss_nil)
        (pss_one (ps_ret (pe_methD (pv 0) T.clL L_look (by exact hr.mono (by decide)) (pa_cons (pv 1) pa_nil)))))))), ?_⟩
    obtain ⟨dl, v, hL⟩ := LA.ins
    cases k with
    | begin_ e h t =>
      obtain ⟨rfl, rfl⟩ := hk
      refine ⟨_, rfl, rfl, _, rfl, ite2 (fun _ => ?_) (fun z => absurd (decide_eq_true rfl) z)⟩
      exact ⟨_, rfl, L, dl, _, rfl, hL, cur_no (by decide +kernel), _, rfl, p, _, 0, _, rfl, rfl, hp, atI_nat (j := 0) rfl, _, rfl, p, _, 1, _, rfl, rfl, hp, atI_nat (j := 1) rfl, _, rfl, p, _, 2, _, rfl, rfl, hp, atI_nat (j := 2) rfl,
        L, s, B, e, h, t, rfl, sB, LA, tl⟩
    | deliver l =>
      obtain ⟨rfl, rfl, hl⟩ := hk
      refine ⟨_, rfl, rfl, _, rfl, ite2 (fun z => absurd (V.int.inj (of_decide_eq_true z)) (by decide)) (fun _ => ?_)⟩
      refine ⟨_, rfl, rfl, _, rfl, ite2 (fun _ => ?_) (fun z => absurd (decide_eq_true rfl) z)⟩
      exact ⟨_, rfl, L, dl, _, rfl, hL, cur_no (by decide +kernel), _, rfl, L, s, B, N, p, _, rfl, sB, LA, FS, hN, hp, hl, tl⟩
    | time side t =>
      obtain ⟨rfl, rfl⟩ := hk
      refine ⟨_, rfl, rfl, _, rfl, ite2 (fun z => absurd (V.int.inj (of_decide_eq_true z)) (by decide)) (fun _ => ?_)⟩
      refine ⟨_, rfl, rfl, _, rfl, ite2 (fun z => absurd (V.int.inj (of_decide_eq_true z)) (by decide)) (fun _ => ?_)⟩
      refine ⟨_, rfl, rfl, _, rfl, ite2 (fun _ => ?_) (fun z => absurd (decide_eq_true rfl) z)⟩
      exact ⟨_, rfl, L, dl, _, rfl, hL, cur_no (by decide +kernel), _, rfl, p, _, 0, _, rfl, rfl, hp, atI_nat (j := 0) rfl, _, rfl, p, _, 1, _, rfl, rfl, hp, atI_nat (j := 1) rfl, L, s, B, N, side, t, rfl, sB, LA, FS, hN, tl⟩
    | give side =>
      obtain ⟨rfl, rfl⟩ := hk
      refine ⟨_, rfl, rfl, _, rfl, ite2 (fun z => absurd (V.int.inj (of_decide_eq_true z)) (by decide)) (fun _ => ?_)⟩
      refine ⟨_, rfl, rfl, _, rfl, ite2 (fun z => absurd (V.int.inj (of_decide_eq_true z)) (by decide)) (fun _ => ?_)⟩
      refine ⟨_, rfl, rfl, _, rfl, ite2 (fun z => absurd (V.int.inj (of_decide_eq_true z)) (by decide)) (fun _ => ?_)⟩
      refine ⟨_, rfl, rfl, _, rfl, ite2 (fun _ => ?_) (fun z => absurd (decide_eq_true rfl) z)⟩
      exact ⟨_, rfl, L, dl, _, rfl, hL, cur_no (by decide +kernel), _, rfl, p, _, 0, _, rfl, rfl, hp, atI_nat (j := 0) rfl, L, s, B, N, side, rfl, sB, LA, FS, hN, tl⟩
    | now =>
      have hk : c = 5 := hk
      subst hk
      refine ⟨_, rfl, rfl, _, rfl, ite2 (fun z => absurd (V.int.inj (of_decide_eq_true z)) (by decide)) (fun _ => ?_)⟩
      refine ⟨_, rfl, rfl, _, rfl, ite2 (fun z => absurd (V.int.inj (of_decide_eq_true z)) (by decide)) (fun _ => ?_)⟩
      refine ⟨_, rfl, rfl, _, rfl, ite2 (fun z => absurd (V.int.inj (of_decide_eq_true z)) (by decide)) (fun _ => ?_)⟩
      refine ⟨_, rfl, rfl, _, rfl, ite2 (fun z => absurd (V.int.inj (of_decide_eq_true z)) (by decide)) (fun _ => ?_)⟩
      exact ⟨_, rfl, L, dl, _, rfl, hL, cur_no (by decide +kernel), _, rfl, L, s, B, N, 5, .now, rfl, .inl ⟨rfl, rfl⟩, sB, LA, FS, hN, tl⟩
    | stones =>
      have hk : c = 6 := hk
      subst hk
      refine ⟨_, rfl, rfl, _, rfl, ite2 (fun z => absurd (V.int.inj (of_decide_eq_true z)) (by decide)) (fun _ => ?_)⟩
      refine ⟨_, rfl, rfl, _, rfl, ite2 (fun z => absurd (V.int.inj (of_decide_eq_true z)) (by decide)) (fun _ => ?_)⟩
      refine ⟨_, rfl, rfl, _, rfl, ite2 (fun z => absurd (V.int.inj (of_decide_eq_true z)) (by decide)) (fun _ => ?_)⟩
      refine ⟨_, rfl, rfl, _, rfl, ite2 (fun z => absurd (V.int.inj (of_decide_eq_true z)) (by decide)) (fun _ => ?_)⟩
      exact ⟨_, rfl, L, dl, _, rfl, hL, cur_no (by decide +kernel), _, rfl, L, s, B, N, 6, .stones, rfl, .inr (.inl ⟨rfl, rfl⟩), sB, LA, FS, hN, tl⟩
    | scores =>
      have hk : c = 7 := hk
      subst hk
      refine ⟨_, rfl, rfl, _, rfl, ite2 (fun z => absurd (V.int.inj (of_decide_eq_true z)) (by decide)) (fun _ => ?_)⟩
      refine ⟨_, rfl, rfl, _, rfl, ite2 (fun z => absurd (V.int.inj (of_decide_eq_true z)) (by decide)) (fun _ => ?_)⟩
      refine ⟨_, rfl, rfl, _, rfl, ite2 (fun z => absurd (V.int.inj (of_decide_eq_true z)) (by decide)) (fun _ => ?_)⟩
      refine ⟨_, rfl, rfl, _, rfl, ite2 (fun z => absurd (V.int.inj (of_decide_eq_true z)) (by decide)) (fun _ => ?_)⟩
      exact ⟨_, rfl, L, dl, _, rfl, hL, cur_no (by decide +kernel), _, rfl, L, s, B, N, 7, .scores, rfl, .inr (.inr (.inl ⟨rfl, rfl⟩)), sB, LA, FS, hN, tl⟩
    | shot =>
      have hk : c = 8 := hk
      subst hk
      refine ⟨_, rfl, rfl, _, rfl, ite2 (fun z => absurd (V.int.inj (of_decide_eq_true z)) (by decide)) (fun _ => ?_)⟩
      refine ⟨_, rfl, rfl, _, rfl, ite2 (fun z => absurd (V.int.inj (of_decide_eq_true z)) (by decide)) (fun _ => ?_)⟩
      refine ⟨_, rfl, rfl, _, rfl, ite2 (fun z => absurd (V.int.inj (of_decide_eq_true z)) (by decide)) (fun _ => ?_)⟩
      refine ⟨_, rfl, rfl, _, rfl, ite2 (fun z => absurd (V.int.inj (of_decide_eq_true z)) (by decide)) (fun _ => ?_)⟩
      exact ⟨_, rfl, L, dl, _, rfl, hL, cur_no (by decide +kernel), _, rfl, L, s, B, N, 8, .shot, rfl, .inr (.inr (.inr ⟨rfl, rfl⟩)), sB, LA, FS, hN, tl⟩
/-! ### the line of calls -/
def spAns (K : PySem.W.Frag) : Sp := fun vs H Q _ => ∃ (a : Addr) (ns : List Int), vs = [.ref a] ∧ SqL K H a (ns.map V.int) ∧ PyKg65.answers_asked ns = true ∧
  ∀ (H' : Hp) (p : Addr), H' p = some (.lst ((PyKg65.answers ns).map V.int)) → Q (.ref p) H'
/-- behind so many calls: what is left of them, what is answered -/
structure Left (ns : List Int) (j N : Nat) (s : Option Game) (out : List Int) : Prop where
  fit : FitS N s
  ex : ∃ (f : Nat) (cs : List (List (List Int))), PyFlat.calls PyKg65.shape f (ns.drop j) = some cs ∧ N + cs.length ≤ 220 ∧ (∀ c ∈ cs, Kg65Neutral.asked1 c = true) ∧
    PyKg65.answers ns = out ++ PyFlat.told (PyFlat.played Kg65Neutral.step s cs)
theorem map_whole (cs : List (List (List Int))) : cs.map PyKg65.whole = cs := by
  have : PyKg65.whole = id := funext whole_is
  rw [this, List.map_id]
theorem left_start {ns : List Int} (h : PyKg65.answers_asked ns = true) : Left ns 0 0 none [] ∧ (PyKg65.answers ns).length ≤ 10000000 := by
  unfold PyKg65.answers_asked at h
  cases hc : PyFlat.calls PyKg65.shape ns.length ns with
  | none =>
    rw [hc] at h
    cases h
  | some raw =>
    rw [hc] at h
    simp only [Bool.and_eq_true] at h
    obtain ⟨⟨⟨⟨_, h1⟩, _⟩, h2⟩, h3⟩ := h
    refine ⟨⟨(fun g e => by cases e), ns.length, raw, hc, ?_, fun c hc => ?_, ?_⟩, of_decide_eq_true h3⟩
    · have := of_decide_eq_true h1
      omega
    · unfold Kg65Neutral.asked at h2
      rw [map_whole, Bool.and_eq_true, List.all_eq_true] at h2
      exact h2.1 c hc
    · show PyKg65.answers ns = PyFlat.told (PyFlat.played Kg65Neutral.step none raw)
      unfold PyKg65.answers PyKg65.calls
      rw [hc]
      show PyFlat.told (PyFlat.played Kg65Neutral.step Kg65Neutral.start (raw.map PyKg65.whole)) = _
      rw [map_whole]
      rfl
theorem left_end {ns : List Int} {j N : Nat} {s : Option Game} {out : List Int} (L : Left ns j N s out) (h : ns.length ≤ j) : PyKg65.answers ns = out := by
  obtain ⟨f, cs, hc, _, _, e⟩ := L.ex
  rw [List.drop_of_length_le h] at hc
  rw [calls_nil hc] at e
  rw [e]
  exact List.append_nil out
theorem left_turn {ns : List Int} {j N : Nat} {s : Option Game} {out : List Int} (L : Left ns j N s out) (h : j < ns.length) : ∃ (c : Int) (first len : Nat) (k : Kg65.Call), ns[j]? = some c ∧ HeadAt ns j first len ∧ first + len ≤ ns.length ∧ j < first ∧ N < 220 ∧
    CallIs c ((ns.drop first).take len) k ∧ Left ns (first + len) (N + 1) (Kg65.spec s k).1 (out ++ ((((Kg65.spec s k).2.value :: (Kg65.spec s k).2.out).length : Nat) : Int) :: ((Kg65.spec s k).2.value :: (Kg65.spec s k).2.out)) := by
  obtain ⟨f, cs, hc, hN, ha, e⟩ := L.ex
  obtain ⟨p, r, ed⟩ : ∃ p r, ns.drop j = p :: r := by
    cases hd : ns.drop j with
    | nil =>
      have := congrArg List.length hd
      rw [List.length_drop] at this
      simp at this
      omega
    | cons p r => exact ⟨p, r, rfl⟩
  rw [ed] at hc
  obtain ⟨f', c, t, cs', h1, h2, rfl⟩ := calls_cons hc
  obtain ⟨o, len, k, hh, hz, ht, hk, ho⟩ := parse_one p r c t h1 (ha c List.mem_cons_self)
  have ej : ns[j]? = some p := by
    have := congrArg (fun l : List Int => l[0]?) ed
    simp only [List.getElem?_drop, Nat.add_zero] at this
    exact this
  have ej1 : ns[j + 1]? = r[0]? := by
    have := congrArg (fun l : List Int => l[1]?) ed
    simp only [List.getElem?_drop] at this
    exact this
  have ez : (p :: r).length = ns.length - j := by rw [← ed, List.length_drop]
  have edr : ∀ i, (p :: r).drop i = ns.drop (j + i) := fun i => by rw [← ed, List.drop_drop]
  have o1 : 1 ≤ o := by
    rcases hh with ⟨n, _, _, _, rfl, _⟩ | ⟨w, _, _, _, rfl, _⟩
    · decide
    · decide
  refine ⟨p, j + o, len, k, ej, ?_, by omega, by omega, by rw [List.length_cons] at hN; omega, ?_, ?_, ?_⟩
  · rcases hh with ⟨n, rfl, hn, h0, rfl, rfl⟩ | ⟨w, hp, hw, h0, rfl, rfl⟩
    · exact .inl ⟨n, ej, ej1.trans hn, h0, rfl, rfl⟩
    · exact .inr ⟨p, w, ej, hp, hw, h0, rfl, rfl⟩
  · rw [← edr]
    exact hk
  · exact L.fit.next hk
  · refine ⟨f', cs', ?_, by rw [List.length_cons] at hN; omega, fun c hc => ha c (List.mem_cons_of_mem _ hc), ?_⟩
    · rw [Nat.add_assoc, ← edr, ← ht]
      exact h2
    · rw [e, List.append_assoc]
      refine congrArg _ ?_
      show PyFlat.told ((Kg65Neutral.step s c).2 :: PyFlat.played Kg65Neutral.step (Kg65Neutral.step s c).1 cs') = _
      rw [step_is ho]
      rfl
theorem len_mono {σ : L2.St} {H : Hp} {K : PySem.W.Frag} (Q Q' : Bool → Hp → Prop) (h : ∀ b H1, Q b H1 → Q' b H1) {i j : Nat}
    (q : tTest (tOp (rI0 fun i j => .bl (decide (i < j))) (tVar i) (tCB (fun vs H Q => ∃ (p : Addr) (xs : List V), vs = [.ref p] ∧ (SqL K H p xs ∨ SqT K H p xs) ∧ Q (.int (xs.length : Nat)) H) (tCons (tVar j) tNil))) σ H Q) :
    tTest (tOp (rI0 fun i j => .bl (decide (i < j))) (tVar i) (tCB (fun vs H Q => ∃ (p : Addr) (xs : List V), vs = [.ref p] ∧ (SqL K H p xs ∨ SqT K H p xs) ∧ Q (.int (xs.length : Nat)) H) (tCons (tVar j) tNil))) σ H Q' := by
  obtain ⟨v, hv, u, hu, p, xs, e1, e2, a, b, e3, e4, k, e5, q⟩ := q
  exact ⟨v, hv, u, hu, p, xs, e1, e2, a, b, e3, e4, k, e5, h _ _ q⟩
theorem ok_answers {f : Addr} {fd : FuncData} (F : Fun K "answers" "answers" s_answers f fd) (T : Txt K mg CM CL AD)
    (D_Line : MakeOk P w K mg base "Line" CL 1 ["self"] (spInitL CL))
    (D_numbers_of_call : DefOk P w K mg base "numbers_of_call" 1 ["calls", "at"] (spNums K))
    (D_answer_call : DefOk P w K mg base "answer_call" 8 ["line", "call", "numbers"] (spCall K CL CM)) : FnOk P w K mg base CX0 9 f fd ["calls"] (spAns K) := by
  refine F.ok sc_answers (fun vs H Q E h => ?_) (fun cdv A outer s H vs Q E hr h => ?_)
  · obtain ⟨a, ns, rfl, _⟩ := h
    rfl
  · obtain ⟨a, ns, rfl, ha, hask, q⟩ := h
    obtain ⟨left0, hbig⟩ := left_start hask
    refine ⟨_, (pss_cons (ps_set (i := 1) sc_answers.nd rfl (Or.inl rfl) (pe_makeD0 D_Line (by exact hr.mono (by decide)) (by rfl)))
        (pss_cons (ps_set (i := 2) sc_answers.nd rfl (Or.inl rfl) (pe_lst pa_nil))
        (pss_cons (ps_set (i := 3) sc_answers.nd rfl (Or.inl rfl) pe_int)
        (pss_cons (ps_while PassesOwn.never (pt_cmpR op_lt (pv 3) (pe_callB call_len_seq (by rfl) T.nlen PySem.boot_len (pa_cons (pv 0) pa_nil)) (nomark _))
          (pss_cons (ps_asg (pe_callD D_numbers_of_call (by exact hr.mono (by decide)) (by rfl) (pa_cons (pv 0) (pa_cons (pv 3) pa_nil))) (pg_tup (by rfl) (pgs_cons (pg_name (i := 4) sc_answers.nd rfl (Or.inl rfl)) (pgs_cons (pg_name (i := 5) sc_answers.nd rfl (Or.inl rfl)) pgs_nil))))
          (pss_cons (ps_set (i := 6) sc_answers.nd rfl (Or.inl rfl) (pe_callD D_answer_call (by exact hr.mono (by decide)) (by rfl) (pa_cons (pv 1) (pa_cons (pe_ix (r := rIxL K) ix_list (pv 0) (pv 3) (fun _ _ => rfl)) (pa_cons (pv 4) pa_nil)))))
          (pss_cons (ps_expr (pe_bm PySem.F.plainAttrs_list PySem.F.slot_list_append PySem.F.type_list_append mt_append (pv 2) (pa_cons (pe_callB call_len_seq (by rfl) T.nlen PySem.boot_len (pa_cons (pv 6) pa_nil)) pa_nil)))
          (pss_cons (ps_expr (pe_bm PySem.F.plainAttrs_list PySem.F.slot_list_extend PySem.F.type_list_extend mt_extend (pv 2) (pa_cons (pv 6) pa_nil)))
          (pss_one (ps_set (i := 3) sc_answers.nd rfl (Or.inl rfl) (pv 5))))))))
        (pss_one (ps_ret (pv 2))))))), ?_⟩
    intro L dx nL nd ne
    refine ⟨L, dx, rfl, upd_same, rfl, ?_⟩
    have s1 : Same H (upd (upd (upd H dx (.own L)) L (.ins CL dx [])) L (.ins CL dx [("current", .non)])) := fun b o hb => by
      rw [upd_ne (ne_of_none hb nL), upd_ne (ne_of_none hb nL), upd_ne (ne_of_none hb nd)]
      exact hb
    have hL1 := upd_same (H := upd (upd H dx (.own L)) L (.ins CL dx [])) (a := L) (o := .ins CL dx [("current", .non)])
    generalize upd (upd (upd H dx (.own L)) L (.ins CL dx [])) L (.ins CL dx [("current", .non)]) = H1 at s1 hL1 ⊢
    refine ⟨Nat.zero_le _, fun an na => ?_⟩
    have nan := s1.free na
    have nLa : L ≠ an := ne_of_none hL1 na
    have s2 : Same (upd H an (.lst [])) (upd H1 an (.lst [])) := fun b o hb => by
      unfold upd at hb ⊢
      by_cases e : b = an
      · rw [if_pos e] at hb ⊢
        exact hb
      · rw [if_neg e] at hb ⊢
        exact s1 _ _ hb
    have LA0 : LineAt CL CM (upd H an (.lst [])) (upd H1 an (.lst [])) L none := ⟨by rw [upd_ne nLa]; exact nL, dx, by rw [upd_ne nLa]; exact hL1⟩
    generalize upd H1 an (.lst []) = H2 at s2 LA0 ⊢
    refine while_by (fun σ H' => ∃ (j N : Nat) (v4 v5 v6 : Option V) (st : Option Game) (out : List Int), σ = [some (.ref a), some (.ref L), some (.ref an), some (.int (j : Nat)), v4, v5, v6] ∧ j ≤ ns.length ∧
        Same (upd H an (.lst (out.map V.int))) H' ∧ LineAt CL CM (upd H an (.lst (out.map V.int))) H' L st ∧ Left ns j N st out)
      (fun (σ : L2.St) _ => match σ[3]? with
        | some (some (V.int z)) => ns.length - z.toNat
        | _ => 0) ⟨0, 0, none, none, none, none, [], rfl, Nat.zero_le _, s2, LA0, left0⟩ ?_ ?_
    · rintro σ H3 ⟨j, N, v4, v5, v6, st, out, rfl, hj, sB, LA, LF⟩
      have sH : Same H (upd H an (.lst (out.map V.int))) := same_upd nan
      have sH3 := sH.trans sB
      refine ⟨_, rfl, _, rfl, a, _, rfl, .inl (sH3.seq ha), _, _, rfl, rfl, _, rfl, ite2 (fun c => ?_) (fun c => ?_)⟩
      · have c := Int.ofNat_lt.mp (of_decide_eq_true c)
        rw [List.length_map] at c
        obtain ⟨cc, first, len, k, hcc, hh, hz, hf, hN, hk, LF'⟩ := left_turn LF c
        refine ⟨_, rfl, _, rfl, a, ns, j, first, len, rfl, sH3.seq ha, hh, hz, fun H4 p t s4 np ep et => ?_⟩
        refine ⟨t, _, rfl, SqT.of et, rfl, _, _, rfl, _, _, rfl, rfl, ?_⟩
        have gc : (ns.map V.int)[j]? = some (.int cc) := by
          rw [List.getElem?_map, hcc]
          rfl
        have hB := upd_same (H := H) (a := an) (o := .lst (out.map V.int))
        refine ⟨_, rfl, _, rfl, _, rfl, a, _, _, _, rfl, rfl, s4.seq (sH3.seq ha), atI_nat gc, _, rfl,
          L, st, upd H an (.lst (out.map V.int)), N, cc, p, _, k, rfl, hk, sB.trans s4, LA.same s4, LF.fit, by omega, SqL.of ep, fun H5 r s5 LA5 br er => ?_⟩
        have eA := s5 _ _ hB
        have nr : r ≠ an := (ne_of_none hB br).symm
        obtain ⟨_, _, _, _, _, eAns⟩ := LF'.ex
        have hlen : (out ++ ((((Kg65.spec st k).2.value :: (Kg65.spec st k).2.out).length : Nat) : Int) :: ((Kg65.spec st k).2.value :: (Kg65.spec st k).2.out)).length ≤ 10000000 := by
          have := congrArg List.length eAns
          rw [List.length_append] at this
          omega
        generalize hx : ((Kg65.spec st k).2.value :: (Kg65.spec st k).2.out) = ans at er LF' hlen ⊢
        have hsz : (10000000 : Nat) < sizeLine := by decide
        rw [List.length_append, List.length_cons] at hlen
        refine ⟨_, rfl, .inl ⟨rfl, _, SqL.of eA⟩, _, rfl, r, _, rfl, .inl (SqL.of er), an, _, _, rfl, rfl, eA, ?_, ?_⟩
        · rw [List.length_map]
          omega
        have eA2 := upd_same (H := H5) (a := an) (o := .lst (out.map V.int ++ [V.int (((ans.map V.int).length : Nat) : Int)]))
        have er2 : (upd H5 an (.lst (out.map V.int ++ [V.int (((ans.map V.int).length : Nat) : Int)]))) r = _ := (upd_ne nr).trans er
        refine ⟨_, rfl, .inl ⟨rfl, _, SqL.of eA2⟩, _, rfl, an, r, _, _, rfl, rfl, eA2, er2, ?_, ?_⟩
        · rw [List.length_append, List.length_map, List.length_map]
          show out.length + 1 + ans.length ≤ _
          omega
        rw [upd_upd]
        have eo : (out.map V.int ++ [V.int (((ans.map V.int).length : Nat) : Int)]) ++ ans.map V.int = (out ++ ((ans.length : Nat) : Int) :: ans).map V.int := by
          rw [List.length_map, List.map_append, List.append_assoc]
          rfl
        rw [eo]
        refine ⟨_, rfl, ⟨first + len, N + 1, _, _, _, (Kg65.spec st k).1, out ++ ((ans.length : Nat) : Int) :: ans, rfl, hz, ?_, ?_, LF'⟩, ?_⟩
        · intro b o hb
          unfold upd at hb ⊢
          by_cases e : b = an
          · rw [if_pos e] at hb ⊢
            exact hb
          · rw [if_neg e] at hb ⊢
            exact s5 _ _ (sH _ _ hb)
        · have := LA5.apart (o := .lst ((out ++ ((ans.length : Nat) : Int) :: ans).map V.int)) hB eA
          rw [upd_upd] at this
          exact this
        · show ns.length - ((first + len : Nat) : Int).toNat < ns.length - ((j : Nat) : Int).toNat
          omega
      · have c : ns.length ≤ j := by
          refine Nat.le_of_not_lt fun z => c (decide_eq_true (Int.ofNat_lt.mpr ?_))
          rw [List.length_map]
          exact z
        refine ⟨_, rfl, q H3 an ?_⟩
        rw [left_end LF c]
        exact sB _ _ upd_same
    · exact fun σ H Q Q' h q => len_mono Q Q' h q
end
end Cm

namespace Cm
open PySem PySem.Spec PyProof.Rows L2
/-! ### what the top has written -/
def dictIs (es : Array DictEntry) (kvs : List (Int × Int)) : Bool := es.toList.all (fun e => match e.key with
    | .int k _ => decide (e.hash = hashInt k)
    | _ => false) && kvs.all fun kv => match findBy Value.isInt es kv.1 with
    | some (.int v _) => decide (v = kv.2)
    | _ => false
theorem dict_get {K : PySem.W.Frag} {AD : Addr} {es : Array DictEntry} {n : Nat} {kvs : List (Int × Int)} (h : K.lookup AD = some ⟨.type "dict", none, .dict es n, #[]⟩) (d : dictIs es kvs = true) (k v : Int) (m : (k, v) ∈ kvs) : KGetI K AD k (.int v) := by
  unfold dictIs at d
  rw [Bool.and_eq_true, List.all_eq_true, List.all_eq_true] at d
  have q := d.2 (k, v) m
  have D : KDI K AD es n := ⟨h, fun e he => by
    have p := d.1 e (Array.mem_toList_iff.mpr he)
    cases hk : e.key with
    | int j t =>
      rw [hk] at p
      exact ⟨j, beq_self_eq_true j, of_decide_eq_true p⟩
    | _ =>
      rw [hk] at p
      cases p⟩
  cases hf : findBy Value.isInt es k with
  | none =>
    simp only [hf] at q
    cases q
  | some u =>
    cases u with
    | int j t =>
      simp only [hf] at q
      have q := of_decide_eq_true q
      exact ⟨es, n, .int j t, D, hf, ⟨t, by rw [← q]⟩⟩
    | _ =>
      simp only [hf] at q
      cases q
/-- a def of the module, as the top leaves it -/
theorem def_ok {P : Program} {w : World} {K : PySem.W.Frag} {mg : Str → Option Value} {base : Heap} {x : Str} {k : Nat} {ps : List Str} {sp : Sp} {f : Addr} {fd : FuncData} (h : mg x = some (.ref f)) (kp : PySem.W.keepIn K (.ref f) = true)
    (F : FnOk P w K mg base CX0 k f fd ps sp) (b : Binds K fd ps []) : DefOk P w K mg base x k ps sp := ⟨f, fd, h, kp, F, b⟩
theorem meth_ok {P : Program} {w : World} {K : PySem.W.Frag} {mg : Str → Option Value} {base : Heap} {C : Addr} {m : Str} {k : Nat} {ps : List Str} {sp : Sp} {f : Addr} {fd : FuncData} (h : Meth K C m f)
    (F : FnOk P w K mg base CX0 k f fd ps sp) (b : Binds K fd ps []) : MethOk P w K mg base C m k ps sp := ⟨f, fd, h, F, b⟩
theorem all_mk {P : Program} {w : World} {K : PySem.W.Frag} {h : Heap} {mg : Str → Option Value} {fa : Addr} (X : K.In h) (G : h.Ns mainGlobals mg) (hfa : mg "answers" = some (.ref fa))
    {CM CL AD f_0 f_1 f_2 f_3 f_4 f_5 f_6 f_7 f_8 f_9 f_10 f_11 f_12 f_13 f_14 f_15 f_16 f_17 f_18 f_19 f_20 f_21 f_22 f_23 f_24 f_25 f_26 f_27 f_28 f_29 f_30 f_31 f_32 f_33 f_34 f_35 f_36 f_37 f_38 f_39 : Addr} {od0 an0 od1 an1 od2 an2 od3 an3 od4 an4 od5 an5 od6 an6 od7 an7 od8 an8 od9 an9 od10 an10 od11 an11 od12 an12 od13 an13 od14 an14 od15 an15 od16 an16 od17 an17 od18 an18 od19 an19 od20 an20 od21 an21 od22 an22 od23 an23 od24 an24 od25 an25 od26 an26 od27 an27 od28 an28 od29 an29 od30 an30 od31 an31 od32 an32 od33 an33 od34 an34 od35 an35 od36 an36 od37 an37 od38 an38 od39 an39 : Option Addr} {sl0 sl1 sl2 sl3 sl4 sl5 sl6 sl7 sl8 sl9 sl10 sl11 sl12 sl13 sl14 sl15 sl16 sl17 sl18 sl19 sl20 sl21 sl22 sl23 sl24 sl25 sl26 sl27 sl28 sl29 sl30 sl31 sl32 sl33 sl34 sl35 sl36 sl37 sl38 sl39 : Array (Option Value)}
    {oc0 kV0 dc0 pm0 cd0 ct0 oc1 kV1 dc1 pm1 cd1 ct1 oc2 kV2 dc2 pm2 cd2 ct2 oc3 kV3 dc3 pm3 cd3 ct3 oc4 kV4 dc4 pm4 cd4 ct4 oc5 kV5 dc5 pm5 cd5 ct5 oc6 kV6 dc6 pm6 cd6 ct6 oc7 kV7 dc7 pm7 cd7 ct7 oc8 kV8 dc8 pm8 cd8 ct8 oc9 kV9 dc9 pm9 cd9 ct9 oc10 kV10 dc10 pm10 cd10 ct10 oc11 kV11 dc11 pm11 cd11 ct11 oc12 kV12 dc12 pm12 cd12 ct12 oc13 kV13 dc13 pm13 cd13 ct13 oc14 kV14 dc14 pm14 cd14 ct14 oc15 kV15 dc15 pm15 cd15 ct15 oc16 kV16 dc16 pm16 cd16 ct16 oc17 kV17 dc17 pm17 cd17 ct17 oc18 kV18 dc18 pm18 cd18 ct18 oc19 kV19 dc19 pm19 cd19 ct19 oc20 kV20 dc20 pm20 cd20 ct20 oc21 kV21 dc21 pm21 cd21 ct21 oc22 kV22 dc22 pm22 cd22 ct22 oc23 kV23 dc23 pm23 cd23 ct23 oc24 kV24 dc24 pm24 cd24 ct24 oc25 kV25 dc25 pm25 cd25 ct25 oc26 kV26 dc26 pm26 cd26 ct26 oc27 kV27 dc27 pm27 cd27 ct27 oc28 kV28 dc28 pm28 cd28 ct28 oc29 kV29 dc29 pm29 cd29 ct29 oc30 kV30 dc30 pm30 cd30 ct30 oc31 kV31 dc31 pm31 cd31 ct31 oc32 kV32 dc32 pm32 cd32 ct32 oc33 kV33 dc33 pm33 cd33 ct33 oc34 kV34 dc34 pm34 cd34 ct34 oc35 kV35 dc35 pm35 cd35 ct35 oc36 kV36 dc36 pm36 cd36 ct36 oc37 kV37 dc37 pm37 cd37 ct37 oc38 kV38 dc38 pm38 cd38 ct38 oc39 kV39 dc39 pm39 cd39 ct39 : Value}
    {t_PLAY_X t_PLAY_Y_BELOW t_PLAY_Y_ABOVE t_HOUSE t_MIDDLE_LINE t_CLEAR t_BEGIN t_DELIVER t_TIME t_GIVE t_NOW t_STONES t_SCORES t_NOT_AS_TOLD t_NO_MATCH t_CANNOT_LIE_SO t_NOBODY t_MOST_ENDS t_MOST_SECONDS t_FARTHEST t_STONES_OF_AN_END t_GUARDED_DELIVERIES t_SECONDS_MORE : Tok} {es : Array DictEntry} {nd : Nat}
    (aCM : PySem.W.nsIn K mainGlobals "Match" = some (some (.ref CM)))
    (aCL : PySem.W.nsIn K mainGlobals "Line" = some (some (.ref CL)))
    (a0 : PySem.W.nsIn K mainGlobals "side_of" = some (some (.ref f_0)))
    (l0 : K.lookup f_0 = some ⟨oc0, od0, .func (PySem.W.fnOf "side_of" "side_of" (defArgs s_side_of) (defBody s_side_of) (defScope s_side_of) .none kV0 dc0 pm0 an0 cd0 ct0), sl0⟩)
    (c0 : PySem.W.codeIn K cd0 "side_of" = true)
    (k0 : PySem.W.keepIn K (.ref f_0) = true)
    (a1 : PySem.W.nsIn K mainGlobals "tee_square" = some (some (.ref f_1)))
    (l1 : K.lookup f_1 = some ⟨oc1, od1, .func (PySem.W.fnOf "tee_square" "tee_square" (defArgs s_tee_square) (defBody s_tee_square) (defScope s_tee_square) .none kV1 dc1 pm1 an1 cd1 ct1), sl1⟩)
    (c1 : PySem.W.codeIn K cd1 "tee_square" = true)
    (k1 : PySem.W.keepIn K (.ref f_1) = true)
    (a2 : PySem.W.nsIn K mainGlobals "in_play" = some (some (.ref f_2)))
    (l2 : K.lookup f_2 = some ⟨oc2, od2, .func (PySem.W.fnOf "in_play" "in_play" (defArgs s_in_play) (defBody s_in_play) (defScope s_in_play) .none kV2 dc2 pm2 an2 cd2 ct2), sl2⟩)
    (c2 : PySem.W.codeIn K cd2 "in_play" = true)
    (k2 : PySem.W.keepIn K (.ref f_2) = true)
    (a3 : PySem.W.nsIn K mainGlobals "in_house" = some (some (.ref f_3)))
    (l3 : K.lookup f_3 = some ⟨oc3, od3, .func (PySem.W.fnOf "in_house" "in_house" (defArgs s_in_house) (defBody s_in_house) (defScope s_in_house) .none kV3 dc3 pm3 an3 cd3 ct3), sl3⟩)
    (c3 : PySem.W.codeIn K cd3 "in_house" = true)
    (k3 : PySem.W.keepIn K (.ref f_3) = true)
    (a4 : PySem.W.nsIn K mainGlobals "is_guard" = some (some (.ref f_4)))
    (l4 : K.lookup f_4 = some ⟨oc4, od4, .func (PySem.W.fnOf "is_guard" "is_guard" (defArgs s_is_guard) (defBody s_is_guard) (defScope s_is_guard) .none kV4 dc4 pm4 an4 cd4 ct4), sl4⟩)
    (c4 : PySem.W.codeIn K cd4 "is_guard" = true)
    (k4 : PySem.W.keepIn K (.ref f_4) = true)
    (a5 : PySem.W.nsIn K mainGlobals "touches_middle_line" = some (some (.ref f_5)))
    (l5 : K.lookup f_5 = some ⟨oc5, od5, .func (PySem.W.fnOf "touches_middle_line" "touches_middle_line" (defArgs s_touches_middle_line) (defBody s_touches_middle_line) (defScope s_touches_middle_line) .none kV5 dc5 pm5 an5 cd5 ct5), sl5⟩)
    (c5 : PySem.W.codeIn K cd5 "touches_middle_line" = true)
    (k5 : PySem.W.keepIn K (.ref f_5) = true)
    (a6 : PySem.W.nsIn K mainGlobals "lie_clear" = some (some (.ref f_6)))
    (l6 : K.lookup f_6 = some ⟨oc6, od6, .func (PySem.W.fnOf "lie_clear" "lie_clear" (defArgs s_lie_clear) (defBody s_lie_clear) (defScope s_lie_clear) .none kV6 dc6 pm6 an6 cd6 ct6), sl6⟩)
    (c6 : PySem.W.codeIn K cd6 "lie_clear" = true)
    (k6 : PySem.W.keepIn K (.ref f_6) = true)
    (a7 : PySem.W.nsIn K mainGlobals "all_lie_clear" = some (some (.ref f_7)))
    (l7 : K.lookup f_7 = some ⟨oc7, od7, .func (PySem.W.fnOf "all_lie_clear" "all_lie_clear" (defArgs s_all_lie_clear) (defBody s_all_lie_clear) (defScope s_all_lie_clear) .none kV7 dc7 pm7 an7 cd7 ct7), sl7⟩)
    (c7 : PySem.W.codeIn K cd7 "all_lie_clear" = true)
    (k7 : PySem.W.keepIn K (.ref f_7) = true)
    (a8 : PySem.W.nsIn K mainGlobals "house_squares" = some (some (.ref f_8)))
    (l8 : K.lookup f_8 = some ⟨oc8, od8, .func (PySem.W.fnOf "house_squares" "house_squares" (defArgs s_house_squares) (defBody s_house_squares) (defScope s_house_squares) .none kV8 dc8 pm8 an8 cd8 ct8), sl8⟩)
    (c8 : PySem.W.codeIn K cd8 "house_squares" = true)
    (k8 : PySem.W.keepIn K (.ref f_8) = true)
    (a9 : PySem.W.nsIn K mainGlobals "count_nearer" = some (some (.ref f_9)))
    (l9 : K.lookup f_9 = some ⟨oc9, od9, .func (PySem.W.fnOf "count_nearer" "count_nearer" (defArgs s_count_nearer) (defBody s_count_nearer) (defScope s_count_nearer) .none kV9 dc9 pm9 an9 cd9 ct9), sl9⟩)
    (c9 : PySem.W.codeIn K cd9 "count_nearer" = true)
    (k9 : PySem.W.keepIn K (.ref f_9) = true)
    (a10 : PySem.W.nsIn K mainGlobals "end_points" = some (some (.ref f_10)))
    (l10 : K.lookup f_10 = some ⟨oc10, od10, .func (PySem.W.fnOf "end_points" "end_points" (defArgs s_end_points) (defBody s_end_points) (defScope s_end_points) .none kV10 dc10 pm10 an10 cd10 ct10), sl10⟩)
    (c10 : PySem.W.codeIn K cd10 "end_points" = true)
    (k10 : PySem.W.keepIn K (.ref f_10) = true)
    (a11 : PySem.W.findIn K (.ref CM) "__init__" = some (some (.ref f_11)))
    (i11 : PySem.W.isFn K (.ref f_11) = true)
    (l11 : K.lookup f_11 = some ⟨oc11, od11, .func (PySem.W.fnOf "__init__" "Match.__init__" (defArgs s_Match___init__) (defBody s_Match___init__) (defScope s_Match___init__) .none kV11 dc11 pm11 an11 cd11 ct11), sl11⟩)
    (c11 : PySem.W.codeIn K cd11 "Match.__init__" = true)
    (k11 : PySem.W.keepIn K (.ref f_11) = true)
    (a12 : PySem.W.findIn K (.ref CM) "is_over" = some (some (.ref f_12)))
    (i12 : PySem.W.isFn K (.ref f_12) = true)
    (l12 : K.lookup f_12 = some ⟨oc12, od12, .func (PySem.W.fnOf "is_over" "Match.is_over" (defArgs s_Match_is_over) (defBody s_Match_is_over) (defScope s_Match_is_over) .none kV12 dc12 pm12 an12 cd12 ct12), sl12⟩)
    (c12 : PySem.W.codeIn K cd12 "Match.is_over" = true)
    (k12 : PySem.W.keepIn K (.ref f_12) = true)
    (a13 : PySem.W.findIn K (.ref CM) "points" = some (some (.ref f_13)))
    (i13 : PySem.W.isFn K (.ref f_13) = true)
    (l13 : K.lookup f_13 = some ⟨oc13, od13, .func (PySem.W.fnOf "points" "Match.points" (defArgs s_Match_points) (defBody s_Match_points) (defScope s_Match_points) .none kV13 dc13 pm13 an13 cd13 ct13), sl13⟩)
    (c13 : PySem.W.codeIn K cd13 "Match.points" = true)
    (k13 : PySem.W.keepIn K (.ref f_13) = true)
    (a14 : PySem.W.findIn K (.ref CM) "standing" = some (some (.ref f_14)))
    (i14 : PySem.W.isFn K (.ref f_14) = true)
    (l14 : K.lookup f_14 = some ⟨oc14, od14, .func (PySem.W.fnOf "standing" "Match.standing" (defArgs s_Match_standing) (defBody s_Match_standing) (defScope s_Match_standing) .none kV14 dc14 pm14 an14 cd14 ct14), sl14⟩)
    (c14 : PySem.W.codeIn K cd14 "Match.standing" = true)
    (k14 : PySem.W.keepIn K (.ref f_14) = true)
    (a15 : PySem.W.findIn K (.ref CM) "now" = some (some (.ref f_15)))
    (i15 : PySem.W.isFn K (.ref f_15) = true)
    (l15 : K.lookup f_15 = some ⟨oc15, od15, .func (PySem.W.fnOf "now" "Match.now" (defArgs s_Match_now) (defBody s_Match_now) (defScope s_Match_now) .none kV15 dc15 pm15 an15 cd15 ct15), sl15⟩)
    (c15 : PySem.W.codeIn K cd15 "Match.now" = true)
    (k15 : PySem.W.keepIn K (.ref f_15) = true)
    (a16 : PySem.W.findIn K (.ref CM) "stones" = some (some (.ref f_16)))
    (i16 : PySem.W.isFn K (.ref f_16) = true)
    (l16 : K.lookup f_16 = some ⟨oc16, od16, .func (PySem.W.fnOf "stones" "Match.stones" (defArgs s_Match_stones) (defBody s_Match_stones) (defScope s_Match_stones) .none kV16 dc16 pm16 an16 cd16 ct16), sl16⟩)
    (c16 : PySem.W.codeIn K cd16 "Match.stones" = true)
    (k16 : PySem.W.keepIn K (.ref f_16) = true)
    (a17 : PySem.W.findIn K (.ref CM) "scores" = some (some (.ref f_17)))
    (i17 : PySem.W.isFn K (.ref f_17) = true)
    (l17 : K.lookup f_17 = some ⟨oc17, od17, .func (PySem.W.fnOf "scores" "Match.scores" (defArgs s_Match_scores) (defBody s_Match_scores) (defScope s_Match_scores) .none kV17 dc17 pm17 an17 cd17 ct17), sl17⟩)
    (c17 : PySem.W.codeIn K cd17 "Match.scores" = true)
    (k17 : PySem.W.keepIn K (.ref f_17) = true)
    (a18 : PySem.W.findIn K (.ref CM) "shot" = some (some (.ref f_18)))
    (i18 : PySem.W.isFn K (.ref f_18) = true)
    (l18 : K.lookup f_18 = some ⟨oc18, od18, .func (PySem.W.fnOf "shot" "Match.shot" (defArgs s_Match_shot) (defBody s_Match_shot) (defScope s_Match_shot) .none kV18 dc18 pm18 an18 cd18 ct18), sl18⟩)
    (c18 : PySem.W.codeIn K cd18 "Match.shot" = true)
    (k18 : PySem.W.keepIn K (.ref f_18) = true)
    (a19 : PySem.W.findIn K (.ref CM) "can_lie" = some (some (.ref f_19)))
    (i19 : PySem.W.isFn K (.ref f_19) = true)
    (l19 : K.lookup f_19 = some ⟨oc19, od19, .func (PySem.W.fnOf "can_lie" "Match.can_lie" (defArgs s_Match_can_lie) (defBody s_Match_can_lie) (defScope s_Match_can_lie) .none kV19 dc19 pm19 an19 cd19 ct19), sl19⟩)
    (c19 : PySem.W.codeIn K cd19 "Match.can_lie" = true)
    (k19 : PySem.W.keepIn K (.ref f_19) = true)
    (a20 : PySem.W.findIn K (.ref CM) "breaks_rule_of_guards" = some (some (.ref f_20)))
    (i20 : PySem.W.isFn K (.ref f_20) = true)
    (l20 : K.lookup f_20 = some ⟨oc20, od20, .func (PySem.W.fnOf "breaks_rule_of_guards" "Match.breaks_rule_of_guards" (defArgs s_Match_breaks_rule_of_guards) (defBody s_Match_breaks_rule_of_guards) (defScope s_Match_breaks_rule_of_guards) .none kV20 dc20 pm20 an20 cd20 ct20), sl20⟩)
    (c20 : PySem.W.codeIn K cd20 "Match.breaks_rule_of_guards" = true)
    (k20 : PySem.W.keepIn K (.ref f_20) = true)
    (a21 : PySem.W.findIn K (.ref CM) "deliver" = some (some (.ref f_21)))
    (i21 : PySem.W.isFn K (.ref f_21) = true)
    (l21 : K.lookup f_21 = some ⟨oc21, od21, .func (PySem.W.fnOf "deliver" "Match.deliver" (defArgs s_Match_deliver) (defBody s_Match_deliver) (defScope s_Match_deliver) .none kV21 dc21 pm21 an21 cd21 ct21), sl21⟩)
    (c21 : PySem.W.codeIn K cd21 "Match.deliver" = true)
    (k21 : PySem.W.keepIn K (.ref f_21) = true)
    (a22 : PySem.W.findIn K (.ref CM) "close_end" = some (some (.ref f_22)))
    (i22 : PySem.W.isFn K (.ref f_22) = true)
    (l22 : K.lookup f_22 = some ⟨oc22, od22, .func (PySem.W.fnOf "close_end" "Match.close_end" (defArgs s_Match_close_end) (defBody s_Match_close_end) (defScope s_Match_close_end) .none kV22 dc22 pm22 an22 cd22 ct22), sl22⟩)
    (c22 : PySem.W.codeIn K cd22 "Match.close_end" = true)
    (k22 : PySem.W.keepIn K (.ref f_22) = true)
    (a23 : PySem.W.findIn K (.ref CM) "settle" = some (some (.ref f_23)))
    (i23 : PySem.W.isFn K (.ref f_23) = true)
    (l23 : K.lookup f_23 = some ⟨oc23, od23, .func (PySem.W.fnOf "settle" "Match.settle" (defArgs s_Match_settle) (defBody s_Match_settle) (defScope s_Match_settle) .none kV23 dc23 pm23 an23 cd23 ct23), sl23⟩)
    (c23 : PySem.W.codeIn K cd23 "Match.settle" = true)
    (k23 : PySem.W.keepIn K (.ref f_23) = true)
    (a24 : PySem.W.findIn K (.ref CM) "take_time" = some (some (.ref f_24)))
    (i24 : PySem.W.isFn K (.ref f_24) = true)
    (l24 : K.lookup f_24 = some ⟨oc24, od24, .func (PySem.W.fnOf "take_time" "Match.take_time" (defArgs s_Match_take_time) (defBody s_Match_take_time) (defScope s_Match_take_time) .none kV24 dc24 pm24 an24 cd24 ct24), sl24⟩)
    (c24 : PySem.W.codeIn K cd24 "Match.take_time" = true)
    (k24 : PySem.W.keepIn K (.ref f_24) = true)
    (a25 : PySem.W.findIn K (.ref CM) "lose" = some (some (.ref f_25)))
    (i25 : PySem.W.isFn K (.ref f_25) = true)
    (l25 : K.lookup f_25 = some ⟨oc25, od25, .func (PySem.W.fnOf "lose" "Match.lose" (defArgs s_Match_lose) (defBody s_Match_lose) (defScope s_Match_lose) .none kV25 dc25 pm25 an25 cd25 ct25), sl25⟩)
    (c25 : PySem.W.codeIn K cd25 "Match.lose" = true)
    (k25 : PySem.W.keepIn K (.ref f_25) = true)
    (a26 : PySem.W.findIn K (.ref CL) "__init__" = some (some (.ref f_26)))
    (i26 : PySem.W.isFn K (.ref f_26) = true)
    (l26 : K.lookup f_26 = some ⟨oc26, od26, .func (PySem.W.fnOf "__init__" "Line.__init__" (defArgs s_Line___init__) (defBody s_Line___init__) (defScope s_Line___init__) .none kV26 dc26 pm26 an26 cd26 ct26), sl26⟩)
    (c26 : PySem.W.codeIn K cd26 "Line.__init__" = true)
    (k26 : PySem.W.keepIn K (.ref f_26) = true)
    (a27 : PySem.W.findIn K (.ref CL) "goes_on" = some (some (.ref f_27)))
    (i27 : PySem.W.isFn K (.ref f_27) = true)
    (l27 : K.lookup f_27 = some ⟨oc27, od27, .func (PySem.W.fnOf "goes_on" "Line.goes_on" (defArgs s_Line_goes_on) (defBody s_Line_goes_on) (defScope s_Line_goes_on) .none kV27 dc27 pm27 an27 cd27 ct27), sl27⟩)
    (c27 : PySem.W.codeIn K cd27 "Line.goes_on" = true)
    (k27 : PySem.W.keepIn K (.ref f_27) = true)
    (a28 : PySem.W.findIn K (.ref CL) "begin" = some (some (.ref f_28)))
    (i28 : PySem.W.isFn K (.ref f_28) = true)
    (l28 : K.lookup f_28 = some ⟨oc28, od28, .func (PySem.W.fnOf "begin" "Line.begin" (defArgs s_Line_begin) (defBody s_Line_begin) (defScope s_Line_begin) .none kV28 dc28 pm28 an28 cd28 ct28), sl28⟩)
    (c28 : PySem.W.codeIn K cd28 "Line.begin" = true)
    (k28 : PySem.W.keepIn K (.ref f_28) = true)
    (a29 : PySem.W.findIn K (.ref CL) "deliver" = some (some (.ref f_29)))
    (i29 : PySem.W.isFn K (.ref f_29) = true)
    (l29 : K.lookup f_29 = some ⟨oc29, od29, .func (PySem.W.fnOf "deliver" "Line.deliver" (defArgs s_Line_deliver) (defBody s_Line_deliver) (defScope s_Line_deliver) .none kV29 dc29 pm29 an29 cd29 ct29), sl29⟩)
    (c29 : PySem.W.codeIn K cd29 "Line.deliver" = true)
    (k29 : PySem.W.keepIn K (.ref f_29) = true)
    (a30 : PySem.W.findIn K (.ref CL) "time" = some (some (.ref f_30)))
    (i30 : PySem.W.isFn K (.ref f_30) = true)
    (l30 : K.lookup f_30 = some ⟨oc30, od30, .func (PySem.W.fnOf "time" "Line.time" (defArgs s_Line_time) (defBody s_Line_time) (defScope s_Line_time) .none kV30 dc30 pm30 an30 cd30 ct30), sl30⟩)
    (c30 : PySem.W.codeIn K cd30 "Line.time" = true)
    (k30 : PySem.W.keepIn K (.ref f_30) = true)
    (a31 : PySem.W.findIn K (.ref CL) "give" = some (some (.ref f_31)))
    (i31 : PySem.W.isFn K (.ref f_31) = true)
    (l31 : K.lookup f_31 = some ⟨oc31, od31, .func (PySem.W.fnOf "give" "Line.give" (defArgs s_Line_give) (defBody s_Line_give) (defScope s_Line_give) .none kV31 dc31 pm31 an31 cd31 ct31), sl31⟩)
    (c31 : PySem.W.codeIn K cd31 "Line.give" = true)
    (k31 : PySem.W.keepIn K (.ref f_31) = true)
    (a32 : PySem.W.findIn K (.ref CL) "look" = some (some (.ref f_32)))
    (i32 : PySem.W.isFn K (.ref f_32) = true)
    (l32 : K.lookup f_32 = some ⟨oc32, od32, .func (PySem.W.fnOf "look" "Line.look" (defArgs s_Line_look) (defBody s_Line_look) (defScope s_Line_look) .none kV32 dc32 pm32 an32 cd32 ct32), sl32⟩)
    (c32 : PySem.W.codeIn K cd32 "Line.look" = true)
    (k32 : PySem.W.keepIn K (.ref f_32) = true)
    (a33 : PySem.W.nsIn K mainGlobals "is_guard_moved" = some (some (.ref f_33)))
    (l33 : K.lookup f_33 = some ⟨oc33, od33, .func (PySem.W.fnOf "is_guard_moved" "is_guard_moved" (defArgs s_is_guard_moved) (defBody s_is_guard_moved) (defScope s_is_guard_moved) .none kV33 dc33 pm33 an33 cd33 ct33), sl33⟩)
    (c33 : PySem.W.codeIn K cd33 "is_guard_moved" = true)
    (k33 : PySem.W.keepIn K (.ref f_33) = true)
    (a34 : PySem.W.nsIn K mainGlobals "is_side" = some (some (.ref f_34)))
    (l34 : K.lookup f_34 = some ⟨oc34, od34, .func (PySem.W.fnOf "is_side" "is_side" (defArgs s_is_side) (defBody s_is_side) (defScope s_is_side) .none kV34 dc34 pm34 an34 cd34 ct34), sl34⟩)
    (c34 : PySem.W.codeIn K cd34 "is_side" = true)
    (k34 : PySem.W.keepIn K (.ref f_34) = true)
    (a35 : PySem.W.nsIn K mainGlobals "stones_of" = some (some (.ref f_35)))
    (l35 : K.lookup f_35 = some ⟨oc35, od35, .func (PySem.W.fnOf "stones_of" "stones_of" (defArgs s_stones_of) (defBody s_stones_of) (defScope s_stones_of) .none kV35 dc35 pm35 an35 cd35 ct35), sl35⟩)
    (c35 : PySem.W.codeIn K cd35 "stones_of" = true)
    (k35 : PySem.W.keepIn K (.ref f_35) = true)
    (a36 : PySem.W.nsIn K mainGlobals "are_stones" = some (some (.ref f_36)))
    (l36 : K.lookup f_36 = some ⟨oc36, od36, .func (PySem.W.fnOf "are_stones" "are_stones" (defArgs s_are_stones) (defBody s_are_stones) (defScope s_are_stones) .none kV36 dc36 pm36 an36 cd36 ct36), sl36⟩)
    (c36 : PySem.W.codeIn K cd36 "are_stones" = true)
    (k36 : PySem.W.keepIn K (.ref f_36) = true)
    (a37 : PySem.W.nsIn K mainGlobals "numbers_of_call" = some (some (.ref f_37)))
    (l37 : K.lookup f_37 = some ⟨oc37, od37, .func (PySem.W.fnOf "numbers_of_call" "numbers_of_call" (defArgs s_numbers_of_call) (defBody s_numbers_of_call) (defScope s_numbers_of_call) .none kV37 dc37 pm37 an37 cd37 ct37), sl37⟩)
    (c37 : PySem.W.codeIn K cd37 "numbers_of_call" = true)
    (k37 : PySem.W.keepIn K (.ref f_37) = true)
    (a38 : PySem.W.nsIn K mainGlobals "answer_call" = some (some (.ref f_38)))
    (l38 : K.lookup f_38 = some ⟨oc38, od38, .func (PySem.W.fnOf "answer_call" "answer_call" (defArgs s_answer_call) (defBody s_answer_call) (defScope s_answer_call) .none kV38 dc38 pm38 an38 cd38 ct38), sl38⟩)
    (c38 : PySem.W.codeIn K cd38 "answer_call" = true)
    (k38 : PySem.W.keepIn K (.ref f_38) = true)
    (a39 : PySem.W.nsIn K mainGlobals "answers" = some (some (.ref f_39)))
    (l39 : K.lookup f_39 = some ⟨oc39, od39, .func (PySem.W.fnOf "answers" "answers" (defArgs s_answers) (defBody s_answers) (defScope s_answers) .none kV39 dc39 pm39 an39 cd39 ct39), sl39⟩)
    (c39 : PySem.W.codeIn K cd39 "answers" = true)
    (k39 : PySem.W.keepIn K (.ref f_39) = true)
    (pgCM : PySem.W.plainGet K CM Str.empty = true)
    (hdCM : PySem.W.hasDictIn K CM = true)
    (poCM : PySem.W.plainOver K CM = true)
    (saCM : PySem.W.findIn K (.ref CM) "__setattr__" = some (some (.builtin "object.__setattr__")))
    (mkCM : PySem.W.makesIn K CM = true)
    (kcCM : PySem.W.keepIn K (.ref CM) = true)
    (pgCL : PySem.W.plainGet K CL Str.empty = true)
    (hdCL : PySem.W.hasDictIn K CL = true)
    (poCL : PySem.W.plainOver K CL = true)
    (saCL : PySem.W.findIn K (.ref CL) "__setattr__" = some (some (.builtin "object.__setattr__")))
    (mkCL : PySem.W.makesIn K CL = true)
    (kcCL : PySem.W.keepIn K (.ref CL) = true)
    (naEnds : PySem.W.findIn K (.ref CM) "ends" = some none)
    (naHammer : PySem.W.findIn K (.ref CM) "hammer" = some none)
    (naSeconds : PySem.W.findIn K (.ref CM) "seconds_left" = some none)
    (naEnded : PySem.W.findIn K (.ref CM) "ended" = some none)
    (naDelivered : PySem.W.findIn K (.ref CM) "delivered" = some none)
    (naLying : PySem.W.findIn K (.ref CM) "lying" = some none)
    (naWinner : PySem.W.findIn K (.ref CM) "winner" = some none)
    (naCurrent : PySem.W.findIn K (.ref CL) "current" = some none)
    (z_abs : PySem.W.nsIn K mainGlobals "abs" = some none)
    (z_len : PySem.W.nsIn K mainGlobals "len" = some none)
    (z_sum : PySem.W.nsIn K mainGlobals "sum" = some none)
    (z_any : PySem.W.nsIn K mainGlobals "any" = some none)
    (z_max : PySem.W.nsIn K mainGlobals "max" = some none)
    (z_set : PySem.W.nsIn K mainGlobals "set" = some none)
    (z_sorted : PySem.W.nsIn K mainGlobals "sorted" = some none)
    (z_range : PySem.W.nsIn K mainGlobals "range" = some none)
    (z_enumerate : PySem.W.nsIn K mainGlobals "enumerate" = some none)
    (g_PLAY_X : PySem.W.nsIn K mainGlobals "PLAY_X" = some (some (.int 2230 t_PLAY_X)))
    (g_PLAY_Y_BELOW : PySem.W.nsIn K mainGlobals "PLAY_Y_BELOW" = some (some (.int 1974 t_PLAY_Y_BELOW)))
    (g_PLAY_Y_ABOVE : PySem.W.nsIn K mainGlobals "PLAY_Y_ABOVE" = some (some (.int 6256 t_PLAY_Y_ABOVE)))
    (g_HOUSE : PySem.W.nsIn K mainGlobals "HOUSE" = some (some (.int 1974 t_HOUSE)))
    (g_MIDDLE_LINE : PySem.W.nsIn K mainGlobals "MIDDLE_LINE" = some (some (.int 145 t_MIDDLE_LINE)))
    (g_CLEAR : PySem.W.nsIn K mainGlobals "CLEAR" = some (some (.int 288 t_CLEAR)))
    (g_BEGIN : PySem.W.nsIn K mainGlobals "BEGIN" = some (some (.int 1 t_BEGIN)))
    (g_DELIVER : PySem.W.nsIn K mainGlobals "DELIVER" = some (some (.int 2 t_DELIVER)))
    (g_TIME : PySem.W.nsIn K mainGlobals "TIME" = some (some (.int 3 t_TIME)))
    (g_GIVE : PySem.W.nsIn K mainGlobals "GIVE" = some (some (.int 4 t_GIVE)))
    (g_NOW : PySem.W.nsIn K mainGlobals "NOW" = some (some (.int 5 t_NOW)))
    (g_STONES : PySem.W.nsIn K mainGlobals "STONES" = some (some (.int 6 t_STONES)))
    (g_SCORES : PySem.W.nsIn K mainGlobals "SCORES" = some (some (.int 7 t_SCORES)))
    (g_NOT_AS_TOLD : PySem.W.nsIn K mainGlobals "NOT_AS_TOLD" = some (some (.int (-1) t_NOT_AS_TOLD)))
    (g_NO_MATCH : PySem.W.nsIn K mainGlobals "NO_MATCH" = some (some (.int (-2) t_NO_MATCH)))
    (g_CANNOT_LIE_SO : PySem.W.nsIn K mainGlobals "CANNOT_LIE_SO" = some (some (.int (-4) t_CANNOT_LIE_SO)))
    (g_NOBODY : PySem.W.nsIn K mainGlobals "NOBODY" = some (some (.int (-1) t_NOBODY)))
    (g_MOST_ENDS : PySem.W.nsIn K mainGlobals "MOST_ENDS" = some (some (.int 12 t_MOST_ENDS)))
    (g_MOST_SECONDS : PySem.W.nsIn K mainGlobals "MOST_SECONDS" = some (some (.int 10000 t_MOST_SECONDS)))
    (g_FARTHEST : PySem.W.nsIn K mainGlobals "FARTHEST" = some (some (.int 10000 t_FARTHEST)))
    (g_STONES_OF_AN_END : PySem.W.nsIn K mainGlobals "STONES_OF_AN_END" = some (some (.int 16 t_STONES_OF_AN_END)))
    (g_GUARDED_DELIVERIES : PySem.W.nsIn K mainGlobals "GUARDED_DELIVERIES" = some (some (.int 5 t_GUARDED_DELIVERIES)))
    (g_SECONDS_MORE : PySem.W.nsIn K mainGlobals "SECONDS_MORE" = some (some (.int 270 t_SECONDS_MORE)))
    (w1 : PySem.W.nsIn K mainGlobals "WHOLE_NUMBERS" = some (some (.ref AD)))
    (w2 : K.lookup AD = some ⟨.type "dict", none, .dict es nd, #[]⟩)
    (w3 : dictIs es wnTab = true) :
    ∃ fd : FuncData, (∀ (s : Shared) (us : List Value), us.length = (["calls"] : List Str).length → BindsTo s fd ⟨us, []⟩ ((["calls"] : List Str).zip us)) ∧
      ∀ base : Heap, K.In base → base.Ns mainGlobals mg → FnOk P w K mg base CX0 9 fa fd ["calls"] (spAns K) := by
  have e := hfa.symm.trans (PySem.W.mg_of X G a39)
  cases e
  have T : Txt K mg CM CL AD := ⟨⟨pgCM, hdCM, poCM, saCM⟩, ⟨pgCL, hdCL, poCL, saCL⟩, naEnds, naHammer, naSeconds, naEnded, naDelivered, naLying, naWinner, naCurrent, PySem.W.mg_none_of X G z_abs, PySem.W.mg_none_of X G z_len, PySem.W.mg_none_of X G z_sum, PySem.W.mg_none_of X G z_any, PySem.W.mg_none_of X G z_max, PySem.W.mg_none_of X G z_set, PySem.W.mg_none_of X G z_sorted, PySem.W.mg_none_of X G z_range, PySem.W.mg_none_of X G z_enumerate, ⟨_, PySem.W.mg_of X G g_PLAY_X⟩, ⟨_, PySem.W.mg_of X G g_PLAY_Y_BELOW⟩, ⟨_, PySem.W.mg_of X G g_PLAY_Y_ABOVE⟩, ⟨_, PySem.W.mg_of X G g_HOUSE⟩, ⟨_, PySem.W.mg_of X G g_MIDDLE_LINE⟩, ⟨_, PySem.W.mg_of X G g_CLEAR⟩, ⟨_, PySem.W.mg_of X G g_BEGIN⟩, ⟨_, PySem.W.mg_of X G g_DELIVER⟩, ⟨_, PySem.W.mg_of X G g_TIME⟩, ⟨_, PySem.W.mg_of X G g_GIVE⟩, ⟨_, PySem.W.mg_of X G g_NOW⟩, ⟨_, PySem.W.mg_of X G g_STONES⟩, ⟨_, PySem.W.mg_of X G g_SCORES⟩, ⟨_, PySem.W.mg_of X G g_NOT_AS_TOLD⟩, ⟨_, PySem.W.mg_of X G g_NO_MATCH⟩, ⟨_, PySem.W.mg_of X G g_CANNOT_LIE_SO⟩, ⟨_, PySem.W.mg_of X G g_NOBODY⟩, ⟨_, PySem.W.mg_of X G g_MOST_ENDS⟩, ⟨_, PySem.W.mg_of X G g_MOST_SECONDS⟩, ⟨_, PySem.W.mg_of X G g_FARTHEST⟩, ⟨_, PySem.W.mg_of X G g_STONES_OF_AN_END⟩, ⟨_, PySem.W.mg_of X G g_GUARDED_DELIVERIES⟩, ⟨_, PySem.W.mg_of X G g_SECONDS_MORE⟩, PySem.W.mg_of X G w1, dict_get w2 w3⟩
  have F0 := fun_mk (st := s_side_of) l0 c0 k0
  have b0 := F0.binds (ps := ["number", "hammer"]) fun _ _ _ _ _ _ us hl => match us, hl with | [_, _], _ => rfl
  have F1 := fun_mk (st := s_tee_square) l1 c1 k1
  have b1 := F1.binds (ps := ["stone"]) fun _ _ _ _ _ _ us hl => match us, hl with | [_], _ => rfl
  have F2 := fun_mk (st := s_in_play) l2 c2 k2
  have b2 := F2.binds (ps := ["stone"]) fun _ _ _ _ _ _ us hl => match us, hl with | [_], _ => rfl
  have F3 := fun_mk (st := s_in_house) l3 c3 k3
  have b3 := F3.binds (ps := ["stone"]) fun _ _ _ _ _ _ us hl => match us, hl with | [_], _ => rfl
  have F4 := fun_mk (st := s_is_guard) l4 c4 k4
  have b4 := F4.binds (ps := ["stone"]) fun _ _ _ _ _ _ us hl => match us, hl with | [_], _ => rfl
  have F5 := fun_mk (st := s_touches_middle_line) l5 c5 k5
  have b5 := F5.binds (ps := ["stone"]) fun _ _ _ _ _ _ us hl => match us, hl with | [_], _ => rfl
  have F6 := fun_mk (st := s_lie_clear) l6 c6 k6
  have b6 := F6.binds (ps := ["one", "other"]) fun _ _ _ _ _ _ us hl => match us, hl with | [_, _], _ => rfl
  have F7 := fun_mk (st := s_all_lie_clear) l7 c7 k7
  have b7 := F7.binds (ps := ["stones"]) fun _ _ _ _ _ _ us hl => match us, hl with | [_], _ => rfl
  have F8 := fun_mk (st := s_house_squares) l8 c8 k8
  have b8 := F8.binds (ps := ["stones", "hammer", "side"]) fun _ _ _ _ _ _ us hl => match us, hl with | [_, _, _], _ => rfl
  have F9 := fun_mk (st := s_count_nearer) l9 c9 k9
  have b9 := F9.binds (ps := ["own", "others"]) fun _ _ _ _ _ _ us hl => match us, hl with | [_, _], _ => rfl
  have F10 := fun_mk (st := s_end_points) l10 c10 k10
  have b10 := F10.binds (ps := ["stones", "hammer"]) fun _ _ _ _ _ _ us hl => match us, hl with | [_, _], _ => rfl
  have F11 := fun_mk (st := s_Match___init__) l11 c11 k11
  have b11 := F11.binds (ps := ["self", "ends", "hammer", "seconds"]) fun _ _ _ _ _ _ us hl => match us, hl with | [_, _, _, _], _ => rfl
  have F12 := fun_mk (st := s_Match_is_over) l12 c12 k12
  have b12 := F12.binds (ps := ["self"]) fun _ _ _ _ _ _ us hl => match us, hl with | [_], _ => rfl
  have F13 := fun_mk (st := s_Match_points) l13 c13 k13
  have b13 := F13.binds (ps := ["self", "side"]) fun _ _ _ _ _ _ us hl => match us, hl with | [_, _], _ => rfl
  have F14 := fun_mk (st := s_Match_standing) l14 c14 k14
  have b14 := F14.binds (ps := ["self"]) fun _ _ _ _ _ _ us hl => match us, hl with | [_], _ => rfl
  have F15 := fun_mk (st := s_Match_now) l15 c15 k15
  have b15 := F15.binds (ps := ["self"]) fun _ _ _ _ _ _ us hl => match us, hl with | [_], _ => rfl
  have F16 := fun_mk (st := s_Match_stones) l16 c16 k16
  have b16 := F16.binds (ps := ["self"]) fun _ _ _ _ _ _ us hl => match us, hl with | [_], _ => rfl
  have F17 := fun_mk (st := s_Match_scores) l17 c17 k17
  have b17 := F17.binds (ps := ["self"]) fun _ _ _ _ _ _ us hl => match us, hl with | [_], _ => rfl
  have F18 := fun_mk (st := s_Match_shot) l18 c18 k18
  have b18 := F18.binds (ps := ["self"]) fun _ _ _ _ _ _ us hl => match us, hl with | [_], _ => rfl
  have F19 := fun_mk (st := s_Match_can_lie) l19 c19 k19
  have b19 := F19.binds (ps := ["self", "stones"]) fun _ _ _ _ _ _ us hl => match us, hl with | [_, _], _ => rfl
  have F20 := fun_mk (st := s_Match_breaks_rule_of_guards) l20 c20 k20
  have b20 := F20.binds (ps := ["self", "stones"]) fun _ _ _ _ _ _ us hl => match us, hl with | [_, _], _ => rfl
  have F21 := fun_mk (st := s_Match_deliver) l21 c21 k21
  have b21 := F21.binds (ps := ["self", "stones"]) fun _ _ _ _ _ _ us hl => match us, hl with | [_, _], _ => rfl
  have F22 := fun_mk (st := s_Match_close_end) l22 c22 k22
  have b22 := F22.binds (ps := ["self"]) fun _ _ _ _ _ _ us hl => match us, hl with | [_], _ => rfl
  have F23 := fun_mk (st := s_Match_settle) l23 c23 k23
  have b23 := F23.binds (ps := ["self"]) fun _ _ _ _ _ _ us hl => match us, hl with | [_], _ => rfl
  have F24 := fun_mk (st := s_Match_take_time) l24 c24 k24
  have b24 := F24.binds (ps := ["self", "side", "seconds"]) fun _ _ _ _ _ _ us hl => match us, hl with | [_, _, _], _ => rfl
  have F25 := fun_mk (st := s_Match_lose) l25 c25 k25
  have b25 := F25.binds (ps := ["self", "side"]) fun _ _ _ _ _ _ us hl => match us, hl with | [_, _], _ => rfl
  have F26 := fun_mk (st := s_Line___init__) l26 c26 k26
  have b26 := F26.binds (ps := ["self"]) fun _ _ _ _ _ _ us hl => match us, hl with | [_], _ => rfl
  have F27 := fun_mk (st := s_Line_goes_on) l27 c27 k27
  have b27 := F27.binds (ps := ["self"]) fun _ _ _ _ _ _ us hl => match us, hl with | [_], _ => rfl
  have F28 := fun_mk (st := s_Line_begin) l28 c28 k28
  have b28 := F28.binds (ps := ["self", "ends", "hammer", "seconds"]) fun _ _ _ _ _ _ us hl => match us, hl with | [_, _, _, _], _ => rfl
  have F29 := fun_mk (st := s_Line_deliver) l29 c29 k29
  have b29 := F29.binds (ps := ["self", "numbers"]) fun _ _ _ _ _ _ us hl => match us, hl with | [_, _], _ => rfl
  have F30 := fun_mk (st := s_Line_time) l30 c30 k30
  have b30 := F30.binds (ps := ["self", "side", "seconds"]) fun _ _ _ _ _ _ us hl => match us, hl with | [_, _, _], _ => rfl
  have F31 := fun_mk (st := s_Line_give) l31 c31 k31
  have b31 := F31.binds (ps := ["self", "side"]) fun _ _ _ _ _ _ us hl => match us, hl with | [_, _], _ => rfl
  have F32 := fun_mk (st := s_Line_look) l32 c32 k32
  have b32 := F32.binds (ps := ["self", "call"]) fun _ _ _ _ _ _ us hl => match us, hl with | [_, _], _ => rfl
  have F33 := fun_mk (st := s_is_guard_moved) l33 c33 k33
  have b33 := F33.binds (ps := ["before", "after"]) fun _ _ _ _ _ _ us hl => match us, hl with | [_, _], _ => rfl
  have F34 := fun_mk (st := s_is_side) l34 c34 k34
  have b34 := F34.binds (ps := ["number"]) fun _ _ _ _ _ _ us hl => match us, hl with | [_], _ => rfl
  have F35 := fun_mk (st := s_stones_of) l35 c35 k35
  have b35 := F35.binds (ps := ["numbers"]) fun _ _ _ _ _ _ us hl => match us, hl with | [_], _ => rfl
  have F36 := fun_mk (st := s_are_stones) l36 c36 k36
  have b36 := F36.binds (ps := ["numbers"]) fun _ _ _ _ _ _ us hl => match us, hl with | [_], _ => rfl
  have F37 := fun_mk (st := s_numbers_of_call) l37 c37 k37
  have b37 := F37.binds (ps := ["calls", "at"]) fun _ _ _ _ _ _ us hl => match us, hl with | [_, _], _ => rfl
  have F38 := fun_mk (st := s_answer_call) l38 c38 k38
  have b38 := F38.binds (ps := ["line", "call", "numbers"]) fun _ _ _ _ _ _ us hl => match us, hl with | [_, _, _], _ => rfl
  have F39 := fun_mk (st := s_answers) l39 c39 k39
  have b39 := F39.binds (ps := ["calls"]) fun _ _ _ _ _ _ us hl => match us, hl with | [_], _ => rfl
  refine ⟨PySem.W.fnOf "answers" "answers" (defArgs s_answers) (defBody s_answers) (defScope s_answers) .none kV39 dc39 pm39 an39 cd39 ct39, fun s us hu => match us, hu with | [_], _ => .of_eq rfl, fun base _ _ => ?_⟩
  have D_side_of := def_ok (PySem.W.mg_of X G a0) k0 (ok_side_of (P := P) (w := w) (mg := mg) (base := base) F0) b0
  have D_tee_square := def_ok (PySem.W.mg_of X G a1) k1 (ok_tee_square (P := P) (w := w) (mg := mg) (base := base) F1) b1
  have D_in_play := def_ok (PySem.W.mg_of X G a2) k2 (ok_in_play (P := P) (w := w) (mg := mg) (base := base) F2 T) b2
  have D_in_house := def_ok (PySem.W.mg_of X G a3) k3 (ok_in_house (P := P) (w := w) (mg := mg) (base := base) F3 T D_tee_square) b3
  have D_is_guard := def_ok (PySem.W.mg_of X G a4) k4 (ok_is_guard (P := P) (w := w) (mg := mg) (base := base) F4 T D_in_house) b4
  have D_touches_middle_line := def_ok (PySem.W.mg_of X G a5) k5 (ok_touches (P := P) (w := w) (mg := mg) (base := base) F5 T) b5
  have D_lie_clear := def_ok (PySem.W.mg_of X G a6) k6 (ok_lie_clear (P := P) (w := w) (mg := mg) (base := base) F6 T) b6
  have D_all_lie_clear := def_ok (PySem.W.mg_of X G a7) k7 (ok_all_lie_clear (P := P) (w := w) (mg := mg) (base := base) F7 T D_lie_clear) b7
  have D_house_squares := def_ok (PySem.W.mg_of X G a8) k8 (ok_house_squares (P := P) (w := w) (mg := mg) (base := base) F8 T D_side_of D_tee_square D_in_house) b8
  have D_count_nearer := def_ok (PySem.W.mg_of X G a9) k9 (ok_count_nearer (P := P) (w := w) (mg := mg) (base := base) F9 T) b9
  have D_end_points := def_ok (PySem.W.mg_of X G a10) k10 (ok_end_points (P := P) (w := w) (mg := mg) (base := base) F10 D_house_squares D_count_nearer) b10
  have D_is_guard_moved := def_ok (PySem.W.mg_of X G a33) k33 (ok_is_guard_moved (P := P) (w := w) (mg := mg) (base := base) F33 T D_is_guard D_touches_middle_line) b33
  have D_is_side := def_ok (PySem.W.mg_of X G a34) k34 (ok_is_side (P := P) (w := w) (mg := mg) (base := base) F34) b34
  have D_stones_of := def_ok (PySem.W.mg_of X G a35) k35 (ok_stones_of (P := P) (w := w) (mg := mg) (base := base) F35 T) b35
  have D_are_stones := def_ok (PySem.W.mg_of X G a36) k36 (ok_are_stones (P := P) (w := w) (mg := mg) (base := base) F36 T D_stones_of) b36
  have D_numbers_of_call := def_ok (PySem.W.mg_of X G a37) k37 (ok_numbers_of_call (P := P) (w := w) (mg := mg) (base := base) F37 T) b37
  have D_Match : MakeOk P w K mg base "Match" CM 1 ["self", "ends", "hammer", "seconds"] (spInitM CM) := ⟨f_11, _, PySem.W.mg_of X G aCM, ⟨mkCM, a11, i11, kcCM⟩, ok_initM (P := P) (w := w) (mg := mg) (base := base) F11 T, b11⟩
  have M_is_over := meth_ok ⟨a12, i12, k12⟩ (ok_is_over (P := P) (w := w) (mg := mg) (base := base) F12 T) b12
  have M_points := meth_ok ⟨a13, i13, k13⟩ (ok_points (P := P) (w := w) (mg := mg) (base := base) F13 T) b13
  have M_standing := meth_ok ⟨a14, i14, k14⟩ (ok_standing (P := P) (w := w) (mg := mg) (base := base) F14 T M_points) b14
  have M_now := meth_ok ⟨a15, i15, k15⟩ (ok_now (P := P) (w := w) (mg := mg) (base := base) F15 T M_is_over M_standing D_side_of) b15
  have M_stones := meth_ok ⟨a16, i16, k16⟩ (ok_stones (P := P) (w := w) (mg := mg) (base := base) F16 T D_side_of D_in_house D_is_guard) b16
  have M_scores := meth_ok ⟨a17, i17, k17⟩ (ok_scores (P := P) (w := w) (mg := mg) (base := base) F17 T) b17
  have M_shot := meth_ok ⟨a18, i18, k18⟩ (ok_shot (P := P) (w := w) (mg := mg) (base := base) F18 T D_end_points) b18
  have M_can_lie := meth_ok ⟨a19, i19, k19⟩ (ok_can_lie (P := P) (w := w) (mg := mg) (base := base) F19 T D_in_play D_all_lie_clear) b19
  have M_breaks_rule_of_guards := meth_ok ⟨a20, i20, k20⟩ (ok_breaks (P := P) (w := w) (mg := mg) (base := base) F20 T D_is_guard_moved) b20
  have M_lose := meth_ok ⟨a25, i25, k25⟩ (ok_lose (P := P) (w := w) (mg := mg) (base := base) F25 T) b25
  have M_take_time := meth_ok ⟨a24, i24, k24⟩ (ok_take_time (P := P) (w := w) (mg := mg) (base := base) F24 T M_lose) b24
  have M_settle := meth_ok ⟨a23, i23, k23⟩ (ok_settle (P := P) (w := w) (mg := mg) (base := base) F23 T M_points) b23
  have M_close_end := meth_ok ⟨a22, i22, k22⟩ (ok_close_end (P := P) (w := w) (mg := mg) (base := base) F22 T D_end_points M_settle) b22
  have M_deliver := meth_ok ⟨a21, i21, k21⟩ (ok_deliverM (P := P) (w := w) (mg := mg) (base := base) F21 T M_breaks_rule_of_guards M_close_end) b21
  have D_Line : MakeOk P w K mg base "Line" CL 1 ["self"] (spInitL CL) := ⟨f_26, _, PySem.W.mg_of X G aCL, ⟨mkCL, a26, i26, kcCL⟩, ok_initL (P := P) (w := w) (mg := mg) (base := base) F26 T, b26⟩
  have L_goes_on := meth_ok ⟨a27, i27, k27⟩ (ok_goes_on (P := P) (w := w) (mg := mg) (base := base) F27 T M_is_over) b27
  have L_begin := meth_ok ⟨a28, i28, k28⟩ (ok_begin (P := P) (w := w) (mg := mg) (base := base) F28 T D_is_side D_Match) b28
  have L_deliver := meth_ok ⟨a29, i29, k29⟩ (ok_deliverL (P := P) (w := w) (mg := mg) (base := base) F29 T D_are_stones D_stones_of L_goes_on M_can_lie M_deliver M_standing) b29
  have L_time := meth_ok ⟨a30, i30, k30⟩ (ok_timeL (P := P) (w := w) (mg := mg) (base := base) F30 T D_is_side L_goes_on M_take_time M_standing) b30
  have L_give := meth_ok ⟨a31, i31, k31⟩ (ok_giveL (P := P) (w := w) (mg := mg) (base := base) F31 T D_is_side L_goes_on M_lose M_standing) b31
  have L_look := meth_ok ⟨a32, i32, k32⟩ (ok_look (P := P) (w := w) (mg := mg) (base := base) F32 T M_now M_stones M_scores M_shot) b32
  have D_answer_call := def_ok (PySem.W.mg_of X G a38) k38 (ok_answer_call (P := P) (w := w) (mg := mg) (base := base) F38 T L_begin L_deliver L_time L_give L_look) b38
  exact ok_answers F39 T D_Line D_numbers_of_call D_answer_call
end Cm
open PySem PySem.W PyProof.Rows
set_option maxRecDepth 100000 in
set_option maxHeartbeats 8000000 in
theorem PySem.Challenge.cw_curlingmatch_s01_answers_holds : PySem.Challenge.rw_curlingmatch_s01_answers.Holds := by
  w_on; k_headS; (case hw => exact ⟨[.list [.int 5]], by decide +kernel, by decide +kernel⟩)
  k_fillS
  refine L2.walk_specK (r := PySem.Challenge.rw_curlingmatch_s01_answers) (k := 9) (CX := L2.CX0) (ps := ["calls"]) (sp := Cm.spAns) (by decide +kernel) rfl rfl ⟨rfl, by decide, by decide⟩ (fun w h Y => PySem.W.kIn_of Y) ?F ?S (fun _ _ _ _ z => z)
  case F =>
    intro w mg fa h Y KX G hmg
    refine' Cm.all_mk KX G hmg ?aCM ?aCL ?a0 ?l0 ?c0 ?k0 ?a1 ?l1 ?c1 ?k1 ?a2 ?l2 ?c2 ?k2 ?a3 ?l3 ?c3 ?k3 ?a4 ?l4 ?c4 ?k4 ?a5 ?l5 ?c5 ?k5 ?a6 ?l6 ?c6 ?k6 ?a7 ?l7 ?c7 ?k7 ?a8 ?l8 ?c8 ?k8 ?a9 ?l9 ?c9 ?k9 ?a10 ?l10 ?c10 ?k10 ?a11 ?i11 ?l11 ?c11 ?k11 ?a12 ?i12 ?l12 ?c12 ?k12 ?a13 ?i13 ?l13 ?c13 ?k13 ?a14 ?i14 ?l14 ?c14 ?k14 ?a15 ?i15 ?l15 ?c15 ?k15 ?a16 ?i16 ?l16 ?c16 ?k16 ?a17 ?i17 ?l17 ?c17 ?k17 ?a18 ?i18 ?l18 ?c18 ?k18 ?a19 ?i19 ?l19 ?c19 ?k19 ?a20 ?i20 ?l20 ?c20 ?k20 ?a21 ?i21 ?l21 ?c21 ?k21 ?a22 ?i22 ?l22 ?c22 ?k22 ?a23 ?i23 ?l23 ?c23 ?k23 ?a24 ?i24 ?l24 ?c24 ?k24 ?a25 ?i25 ?l25 ?c25 ?k25 ?a26 ?i26 ?l26 ?c26 ?k26 ?a27 ?i27 ?l27 ?c27 ?k27 ?a28 ?i28 ?l28 ?c28 ?k28 ?a29 ?i29 ?l29 ?c29 ?k29 ?a30 ?i30 ?l30 ?c30 ?k30 ?a31 ?i31 ?l31 ?c31 ?k31 ?a32 ?i32 ?l32 ?c32 ?k32 ?a33 ?l33 ?c33 ?k33 ?a34 ?l34 ?c34 ?k34 ?a35 ?l35 ?c35 ?k35 ?a36 ?l36 ?c36 ?k36 ?a37 ?l37 ?c37 ?k37 ?a38 ?l38 ?c38 ?k38 ?a39 ?l39 ?c39 ?k39 ?pgCM ?hdCM ?poCM ?saCM ?mkCM ?kcCM ?pgCL ?hdCL ?poCL ?saCL ?mkCL ?kcCL ?naEnds ?naHammer ?naSeconds ?naEnded ?naDelivered ?naLying ?naWinner ?naCurrent ?z_abs ?z_len ?z_sum ?z_any ?z_max ?z_set ?z_sorted ?z_range ?z_enumerate ?g_PLAY_X ?g_PLAY_Y_BELOW ?g_PLAY_Y_ABOVE ?g_HOUSE ?g_MIDDLE_LINE ?g_CLEAR ?g_BEGIN ?g_DELIVER ?g_TIME ?g_GIVE ?g_NOW ?g_STONES ?g_SCORES ?g_NOT_AS_TOLD ?g_NO_MATCH ?g_CANNOT_LIE_SO ?g_NOBODY ?g_MOST_ENDS ?g_MOST_SECONDS ?g_FARTHEST ?g_STONES_OF_AN_END ?g_GUARDED_DELIVERIES ?g_SECONDS_MORE ?w1 ?w2 ?w3
    (case aCM => k_is); (case aCL => k_is); (case a0 => k_is); (case l0 => k_is); (case c0 => k_is); (case k0 => k_is)
    (case a1 => k_is); (case l1 => k_is); (case c1 => k_is); (case k1 => k_is); (case a2 => k_is); (case l2 => k_is)
    (case c2 => k_is); (case k2 => k_is); (case a3 => k_is); (case l3 => k_is); (case c3 => k_is); (case k3 => k_is)
    (case a4 => k_is); (case l4 => k_is); (case c4 => k_is); (case k4 => k_is); (case a5 => k_is); (case l5 => k_is)
    (case c5 => k_is); (case k5 => k_is); (case a6 => k_is); (case l6 => k_is); (case c6 => k_is); (case k6 => k_is)
    (case a7 => k_is); (case l7 => k_is); (case c7 => k_is); (case k7 => k_is); (case a8 => k_is); (case l8 => k_is)
    (case c8 => k_is); (case k8 => k_is); (case a9 => k_is); (case l9 => k_is); (case c9 => k_is); (case k9 => k_is)
    (case a10 => k_is); (case l10 => k_is); (case c10 => k_is); (case k10 => k_is); (case a11 => k_is); (case i11 => k_is)
    (case l11 => k_is); (case c11 => k_is); (case k11 => k_is); (case a12 => k_is); (case i12 => k_is); (case l12 => k_is)
    (case c12 => k_is); (case k12 => k_is); (case a13 => k_is); (case i13 => k_is); (case l13 => k_is); (case c13 => k_is)
    (case k13 => k_is); (case a14 => k_is); (case i14 => k_is); (case l14 => k_is); (case c14 => k_is); (case k14 => k_is)
    (case a15 => k_is); (case i15 => k_is); (case l15 => k_is); (case c15 => k_is); (case k15 => k_is); (case a16 => k_is)
    (case i16 => k_is); (case l16 => k_is); (case c16 => k_is); (case k16 => k_is); (case a17 => k_is); (case i17 => k_is)
    (case l17 => k_is); (case c17 => k_is); (case k17 => k_is); (case a18 => k_is); (case i18 => k_is); (case l18 => k_is)
    (case c18 => k_is); (case k18 => k_is); (case a19 => k_is); (case i19 => k_is); (case l19 => k_is); (case c19 => k_is)
    (case k19 => k_is); (case a20 => k_is); (case i20 => k_is); (case l20 => k_is); (case c20 => k_is); (case k20 => k_is)
    (case a21 => k_is); (case i21 => k_is); (case l21 => k_is); (case c21 => k_is); (case k21 => k_is); (case a22 => k_is)
    (case i22 => k_is); (case l22 => k_is); (case c22 => k_is); (case k22 => k_is); (case a23 => k_is); (case i23 => k_is)
    (case l23 => k_is); (case c23 => k_is); (case k23 => k_is); (case a24 => k_is); (case i24 => k_is); (case l24 => k_is)
    (case c24 => k_is); (case k24 => k_is); (case a25 => k_is); (case i25 => k_is); (case l25 => k_is); (case c25 => k_is)
    (case k25 => k_is); (case a26 => k_is); (case i26 => k_is); (case l26 => k_is); (case c26 => k_is); (case k26 => k_is)
    (case a27 => k_is); (case i27 => k_is); (case l27 => k_is); (case c27 => k_is); (case k27 => k_is); (case a28 => k_is)
    (case i28 => k_is); (case l28 => k_is); (case c28 => k_is); (case k28 => k_is); (case a29 => k_is); (case i29 => k_is)
    (case l29 => k_is); (case c29 => k_is); (case k29 => k_is); (case a30 => k_is); (case i30 => k_is); (case l30 => k_is)
    (case c30 => k_is); (case k30 => k_is); (case a31 => k_is); (case i31 => k_is); (case l31 => k_is); (case c31 => k_is)
    (case k31 => k_is); (case a32 => k_is); (case i32 => k_is); (case l32 => k_is); (case c32 => k_is); (case k32 => k_is)
    (case a33 => k_is); (case l33 => k_is); (case c33 => k_is); (case k33 => k_is); (case a34 => k_is); (case l34 => k_is)
    (case c34 => k_is); (case k34 => k_is); (case a35 => k_is); (case l35 => k_is); (case c35 => k_is); (case k35 => k_is)
    (case a36 => k_is); (case l36 => k_is); (case c36 => k_is); (case k36 => k_is); (case a37 => k_is); (case l37 => k_is)
    (case c37 => k_is); (case k37 => k_is); (case a38 => k_is); (case l38 => k_is); (case c38 => k_is); (case k38 => k_is)
    (case a39 => k_is); (case l39 => k_is); (case c39 => k_is); (case k39 => k_is); (case pgCM => k_is); (case hdCM => k_is)
    (case poCM => k_is); (case saCM => k_is); (case mkCM => k_is); (case kcCM => k_is); (case pgCL => k_is); (case hdCL => k_is)
    (case poCL => k_is); (case saCL => k_is); (case mkCL => k_is); (case kcCL => k_is); (case naEnds => k_is); (case naHammer => k_is)
    (case naSeconds => k_is); (case naEnded => k_is); (case naDelivered => k_is); (case naLying => k_is); (case naWinner => k_is); (case naCurrent => k_is)
    (case z_abs => k_is); (case z_len => k_is); (case z_sum => k_is); (case z_any => k_is); (case z_max => k_is); (case z_set => k_is)
    (case z_sorted => k_is); (case z_range => k_is); (case z_enumerate => k_is); (case g_PLAY_X => k_is); (case g_PLAY_Y_BELOW => k_is); (case g_PLAY_Y_ABOVE => k_is)
    (case g_HOUSE => k_is); (case g_MIDDLE_LINE => k_is); (case g_CLEAR => k_is); (case g_BEGIN => k_is); (case g_DELIVER => k_is); (case g_TIME => k_is)
    (case g_GIVE => k_is); (case g_NOW => k_is); (case g_STONES => k_is); (case g_SCORES => k_is); (case g_NOT_AS_TOLD => k_is); (case g_NO_MATCH => k_is)
    (case g_CANNOT_LIE_SO => k_is); (case g_NOBODY => k_is); (case g_MOST_ENDS => k_is); (case g_MOST_SECONDS => k_is); (case g_FARTHEST => k_is); (case g_STONES_OF_AN_END => k_is)
    (case g_GUARDED_DELIVERIES => k_is); (case g_SECONDS_MORE => k_is); (case w1 => k_is); (case w2 => k_is); (case w3 => rfl)
  case S =>
    intro K H xs a hO hwi hask hx
    cases hx with
    | cons h1 h2 =>
      cases h2
      cases h1 with
      | lst hs ha =>
        have e := L2.ints_dw a.1 _ ha
        subst e
        exact ⟨_, a.1, rfl, hs, hask, fun H' p hp => .lst (L2.SqL.of hp) (L2.dw_ints _)⟩
#print axioms PySem.Challenge.cw_curlingmatch_s01_answers_holds
