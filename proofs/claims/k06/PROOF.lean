import PyProof.Rows.All
import Wide.All
import OpenK.AllK
import Wide.FinOn
import HandS.ForMost
import HandS.ForExc
import HandS.Strs
import HandS.SetFor
import HandS.ClsMeth
import HandS.DictComp
import HandS.IsInst
import HandS.Style
import HandS.TupAny
import HandS.Star
import HandS.Walk
import HandS.Iter
import KE.SortData
import KE.GoesEnum
import KE.GoesMore
import HandS.OwnEq
import HandS.More
import PyProof.InstNe
import KE.KCallOwn
import HandS.Codes
import KE.KDictList
import HandS.Conv
import HandS.SetTxt0
import HandS.Set
import HandS.ListItems
import HandS.DictTup
import PyProof.RowDictHeap
import HandS.Evl
import HandS.Lambda
import HandS.ExcOwn
import PyProof.TupleOfSeq
import HandS.EndTab
import KE.KNestM
import HandS.Finally
import PySem.Challenge.RW_sharedlines_k06_all_layouts_of_cells
set_option Elab.async false
set_option maxRecDepth 100000
set_option maxHeartbeats 4000000
namespace Vf
open PySem PySem.Spec PyProof.Rows L2 ClX

structure SMet (K : PySem.W.Frag) (C : Addr) (mc : Value) (m : Str) (p g : Addr) : Prop where
  fd : PySem.W.findCls K (.ref C) mc m = some (.get (.builtin "staticmethod.__get__") (.ref p) .none (.ref C))
  rc : ∃ rest, PySem.W.recIn K p "staticmethod" = some (.ref g :: rest)
  kp : PySem.W.keepIn K (.ref g) = true
def tSM (C : Addr) (sp : Sp) (dvs : List V) (E : XK) (ta : TE) (t : TA) : TE :=
  fun σ H Q => ta σ H fun x H1 => x = .ref C ∧ t σ H1 fun vs H2 => sp (vs ++ dvs) H2 Q E
section
variable {X : Cx} {CX : CXT} {k : Nat} {C p g : Addr} {mc : Value} {fd : FuncData} {ps : List Str} {sp : Sp} {dvs : List V} {ds : List Value} {E : XK} {o e : Expr} {es : List Expr} {m : Str} {pos apos : Pos} {ta : TE} {t : TA} {pl : Sem Bool}
theorem pe_smeth (he : PE X o ta) (r : CRead X.K C mc) (c : SMet X.K C mc m p g)
    (F : FnOk X.prog X.w X.K X.mg X.base CX k g fd ps sp) (hr : Room k X.A) (hb : Binds X.K fd ps ds) (hd : Vals dvs ds) (hx : Passes CX X E)
    (ha : PA X (e :: es) t) (hst : starEach (e :: es) X.env = (false, eval e X.env) :: starEach es X.env := by rfl)
    (hpl : (backTo pos (starEach es X.env)).any (·.1) = false := by rfl)
    (ht : eval (.Call (.Attribute o m apos) (e :: es) [] pos) X.env = (do
      let ov ← eval o X.env
      standAt apos.atName
      let (f, first) ← holding [ov] (getMethod ov m pl)
      callWith pos f first (backTo pos (starEach (e :: es) X.env)) (backToKw pos (keywordEach [] X.env))) := by rfl) :
    PE X (.Call (.Attribute o m apos) (e :: es) [] pos) (tSM C sp dvs E ta t) := by
  refine ⟨fun pins s σ H Q I h => PySem.W.methodCall_KW (pl := pl) (thn (he.run pins s σ H _ I h) ?_) ht⟩
  rintro u s1 ⟨x, H1, I1, rx, rfl, q⟩
  obtain rfl : u = Value.ref C := rx
  obtain ⟨rest, hp⟩ := c.rc
  refine PySem.W.method_cls I1.kIn r.ga (PySem.W.cls_bind I1.kIn r.rd c.fd (wpAny_call
    (PySem.W.sm_get (s := { s1 with toks := s1.toks + 1 }) I1.kIn hp (PySem.W.handed_on rfl ?_))))
  have I2 : Inv X pins σ H1 { s1 with toks := s1.toks + 1 } := I1.tok _
  refine PySem.W.callWith_K (h₀ := X.base) I.ok.mod.kin c.kp (thn (ha.run pos pins _ σ H1 _ I2 q) ?_) hst hpl
  rintro us s2 ⟨vs, H2, I3, rv, q2⟩
  exact ⟨I3.kIn, run_fn F hr hb hd hx I3 rv q2⟩
end
end Vf

set_option maxRecDepth 100000
set_option maxHeartbeats 4000000
namespace Vf
open PySem PySem.Spec PyProof.Rows L2
/-- a set just made -/
abbrev emptySet (w : World) : Obj := { cls := .type "set", dict := none, data := .set #[] 0 (.fresh 0 0 (!w.params.followText "set-order")) }
section
variable {P : Program} {w : World} {A : Around} {E : Value → Shared → Prop} {s : Shared}
theorem set_init_list {l S : Addr} {items : Array Value} {h0 : Heap} (ns : List Int) (hh : A.handled = none) (h0S : S = s.heap.objs.size) (hl : s.heap.IsList l items)
    (hit : IntsAre items.toList ns) (hb : ns.length + 1 < scanBound) (e0 : h0 = s.heap.push (emptySet w)) {R : Result → Shared → Prop}
    (h : ∀ h' tk c, SetR w h' S (fun j => decide (j ∈ ns)) c → c ≤ ns.length → (∀ b o, s.heap.get? b = some o → h'.get? b = some o) →
      R (.ok (.ret .none)) { s with heap := h', toks := tk }) :
    codeAny (model P w) A (.call (.builtin "set.__init__") ⟨[.ref S, .ref l], []⟩) R { s with heap := h0 } := by
  subst h0S e0
  have hS : (s.heap.push (emptySet w)).get? s.heap.objs.size = some (emptySet w) := Heap.get?_push_size _ rfl
  have hT : Shared.TypeIs { s with heap := s.heap.push (emptySet w) } (.ref s.heap.objs.size) "set" := ⟨_, hS, rfl⟩
  refine codeAny_call_builtin F.called_set.init.plain F.entry_set_init (check_set_init_1 hT ?_)
  have hisz : items.size = ns.length := by
    have q := IntsAre.length hit
    rwa [Array.length_toList] at q
  obtain ⟨ol, hol, hcl, nl, hdl⟩ := hl
  obtain ⟨ocls, odict, odata, oslots⟩ := ol
  dsimp only at hcl hdl
  subst hcl hdl
  have hol' : (s.heap.push (emptySet w)).get? l = some { cls := .type "list", dict := odict, data := .seq items nl, slots := oslots } :=
    Heap.get?_push_of_some _ hol
  have hsls := F.sub_list_set
  have hslf := F.sub_list_frozenset
  have hne : (Value.type "list" == Value.type "dict") = false := by decide
  have hl1 : (s.heap.push (emptySet w)).IsList l items := ⟨_, hol', rfl, nl, rfl⟩
  unfold Builtin.«set.__init__» noKeywords Builtin.Frozenset.updateFrom
  generalize hPI : pyIter = PI
  wp_walk
  subst hPI
  refine wpAny_pyIter_list hl1 (wpAny_bind (wpAny_runValue ?_))
  have hlS : l < s.heap.objs.size := Heap.lt_size hol
  have hh3 : A.in1.in1.handled = none := hh
  have hsz : (s.heap.push (emptySet w)).objs.size = s.heap.objs.size + 1 := Heap.size_push ..
  have hlt : ∀ b : Addr, b < s.heap.objs.size → b ∉ [s.heap.objs.size, s.heap.objs.size + 1] := fun b hb hm => by
    rcases List.mem_cons.mp hm with e | e
    · exact Nat.lt_irrefl _ (e ▸ hb)
    · exact Nat.lt_irrefl _ (Nat.lt_succ_of_lt (List.mem_singleton.mp e ▸ hb))
  have hneI : l ≠ (s.heap.push (emptySet w)).objs.size := by rw [hsz]; exact Nat.ne_of_lt (Nat.lt_succ_of_lt hlS)
  have hSf : s.heap.objs.size ∉ [(s.heap.push (emptySet w)).objs.size, l] := by
    rw [hsz]
    simp only [List.mem_cons, List.not_mem_nil, or_false, not_or]
    exact ⟨Nat.ne_of_lt (Nat.lt_succ_self _), Nat.ne_of_gt hlS⟩
  have hcur : (s.heap.push (emptySet w)).IsList l items := hl1
  have hval : ∀ (i : Nat) (v : Value), items[i]? = some v → ∃ k t, ns[i]? = some k ∧ v = .int k t := fun i v hv => by
    have hi : i < items.size := (Array.getElem?_eq_some_iff.mp hv).1
    obtain ⟨t, ht⟩ := IntsAre.int_at hit i v (by rw [Array.getElem?_toList]; exact hv)
    have hi2 : i < ns.length := by omega
    refine ⟨ns[i], t, List.getElem?_eq_getElem hi2, ?_⟩
    rw [ht, List.getD_eq_getElem?_getD, List.getElem?_eq_getElem hi2]
    rfl
  refine set_update_ints ((Walks.list hh3 _ l hneI items).toS) s.heap.objs.size hSf ns hisz hb hval (items.size - 0) 0 _ (by omega) (Nat.zero_le _)
    ?hSt ?hS0 ?hR
  case hSt => exact ⟨⟨_, Heap.get?_push_size _ rfl, rfl, rfl⟩, (hl1.push _)⟩
  case hS0 => exact ⟨0, Nat.le_refl _, setR_new_at (Heap.get?_push_of_some _ hS)⟩
  case hR =>
    rintro ⟨h', g2, d', tk', os'⟩ c hm hc hR
    obtain rfl : g2 = s.gens := hm.gens
    obtain rfl : d' = s.drawn := hm.drawn
    obtain rfl : os' = s.os := hm.os
    refine wpAny_pure (wpAny_pure (h h' tk' c hR (by omega) fun b o e => ?_))
    refine hm.heap b o ?_ (Heap.get?_push_of_some _ (Heap.get?_push_of_some _ e))
    rw [hsz]
    exact hlt b (Heap.lt_size e)
theorem call_set_listI {l : Addr} {items : Array Value} (ns : List Int) {Q : Value → Shared → Prop} (hh : A.handled = none) (hl : s.heap.IsList l items)
    (hit : IntsAre items.toList ns) (hb : ns.length + 1 < scanBound)
    (h : ∀ h' tk c, SetR w h' s.heap.objs.size (fun j => decide (j ∈ ns)) c → c ≤ ns.length → (∀ b o, s.heap.get? b = some o → h'.get? b = some o) →
      Q (.ref s.heap.objs.size) { s with heap := h', toks := tk }) :
    wpAny (model P w) A (call (.type "set") [.ref l]) Q E s := by
  have hT : Shared.TypeIs { s with heap := s.heap.push (emptySet w) } (.ref s.heap.objs.size) "set" := ⟨_, Heap.get?_push_size _ rfl, rfl⟩
  obtain ⟨c, tl, hmro⟩ := F.called_set.mro; have hmade := F.called_set.made; have hsub := F.called_set.sub
  have h1 := F.called_set.notType; have h2 := F.called_set.canCreate; have hct := F.typeCall_set_1 (.ref l)
  have hli := F.called_set.init.lookup; have hbi := F.called_set.init.bind (.ref s.heap.objs.size)
  refine wpAny_call (codeAny_of_tree (show wpAny _ _ (callAny (.type "set") _) _ _ _ from
    wpAny_pure ⟨Code.quiet_builtin _ (by decide +kernel), codeAny_builtin F.entry_type_call ?_⟩))
  rw [Around.under_plain (weight_type_call_type "set" [.ref l] []) rfl]
  repeat (any_goals (first | assumption | wp_step))
  refine codeAny_mono (code_set_led1 (.ref l) (E := E) (Q₁ := fun obj s₁ => obj = .ref s.heap.objs.size ∧ s₁ = { s with heap := s.heap.push (emptySet w) }) ⟨rfl, rfl⟩) ?_
  rintro (e | (_ | _ | _ | obj)) s₁ hr
  · exact hr
  · exact hr.elim
  · exact hr.elim
  · exact hr.elim
  obtain ⟨rfl, rfl⟩ := hr
  repeat (any_goals (first | assumption | wp_step))
  refine codeAny_mono (set_init_list (s := s) (R := wants (fun r s₂ => r = .none ∧ Q (.ref s.heap.objs.size) s₂) E) ns (by exact hh) rfl hl hit hb rfl
    fun h' tk c hR hc hk => ⟨rfl, h h' tk c hR hc hk⟩) ?_
  rintro (e | (_ | _ | _ | r)) s₂ hr
  · exact hr
  · exact hr.elim
  · exact hr.elim
  · exact hr.elim
  obtain ⟨rfl, hq⟩ := hr
  repeat (any_goals (first | assumption | wp_step))
end
theorem nodup_len {α : Type} [DecidableEq α] : ∀ {l m : List α}, l.Nodup → (∀ x ∈ l, x ∈ m) → l.length ≤ m.length
  | [], _, _, _ => Nat.zero_le _
  | a :: l, m, nd, h => by
    have hm := h a List.mem_cons_self
    have e := List.length_erase_of_mem hm
    have hpos := List.length_pos_of_mem hm
    have ih := nodup_len (l := l) (m := m.erase a) (List.nodup_cons.mp nd).2 fun x hx => by
      refine (List.mem_erase_of_ne fun z => ?_).mpr (h x (List.mem_cons_of_mem _ hx))
      exact (List.nodup_cons.mp nd).1 (z ▸ hx)
    rw [List.length_cons]
    omega
/-- set(xs): the set of the ints of a list, new -/
def rSetI (K : PySem.W.Frag) (w : World) : List V → Hp → VK → Prop := fun vs H Q => ∃ (a : Addr) (ns : List Int), vs = [.ref a] ∧ SqL K H a (ns.map V.int) ∧ ns.length + 1 < scanBound ∧
  ∀ (p : Addr) (c : Nat), H p = none → (∀ l : List Int, (∀ k ∈ ns, k ∈ l) → c ≤ l.length) → Q (.ref p) (upd H p (SetO w p (fun j => decide (j ∈ ns)) c))
theorem cr_setI {X : Cx} (hc : X.calm = true) : CallR X (.type "set") (rSetI X.K X.w) := by
  intro pins s σ H vs us Q I r h
  obtain ⟨a, ns, rfl, hS, hb, q⟩ := h
  obtain ⟨its, rv, pl, hz⟩ := I.list hS
  rw [Vals.ref1 r]
  refine call_set_listI ns (I.ok.hd hc) pl.isList (by simpa using intsAre_of rv) hb fun h' tk c R hcn k => ?_
  refine ⟨.ref _, _, I.laid (t' := tk) k (Nat.le_refl _) (setO_new R), rfl, q _ c (I.hok.fresh (Nat.le_refl _)) fun l hl => ?_⟩
  obtain ⟨o, es, ep, t, _, _, _, _, nd, hm, _, _, hn, _⟩ := R
  rw [← hn, ← Array.length_toList, ← List.length_map (f := keyOf)]
  exact nodup_len nd fun x hx => hl x (of_decide_eq_true ((hm x).mpr hx))
end Vf

set_option maxRecDepth 100000
set_option maxHeartbeats 4000000
namespace Vf
open PySem PySem.Spec PyProof.Rows L2
section
variable {J : It} {n : Nat} {G : Hp → Prop} {Y : Nat → Hp → V → Hp → Prop}
theorem same_new {H : Hp} {p : Addr} {o : HO} (h : H p = none) : Same H (upd H p o) := fun b u e => by rw [upd_ne (ne_of_none e h)]; exact e
theorem same_upd {H H1 : Hp} {p : Addr} {o : HO} (s : Same H H1) (h : H p = none) : Same H (upd H1 p o) := fun b u e => by rw [upd_ne (ne_of_none e h)]; exact s b u e
theorem same_both {H H1 : Hp} {p : Addr} {o : HO} (s : Same H H1) : Same (upd H p o) (upd H1 p o) := fun b u e => by
  by_cases hb : b = p
  · subst hb
    rw [upd_same] at e ⊢
    exact e
  · rw [upd_ne hb] at e ⊢
    exact s b u e
theorem take_fm {α β : Type} {l : List α} {f : α → Option β} {i : Nat} {a : α} (h : l[i]? = some a) : (l.take (i + 1)).filterMap f = (l.take i).filterMap f ++ (f a).toList := by
  rw [List.take_add_one, h, List.filterMap_append]
  cases e : f a <;> simp [e]
/-- [.. for .. in .. if ..] -/
theorem lc_fm {α : Type} (l : List α) (w : Walk J l.length G Y) {g : TG} {tt : TT} {te : TE} {vs : List Nat} {σ : L2.St} {H1 : Hp} {D : Addr} {Qd : Hp → Prop} (hD : H1 D = none) (f : α → Option V) (hn : l.length < 1000000) (hG : ∀ H, Same H1 H → G H)
    (hs : ∀ i a x H H', l[i]? = some a → Same H1 H → Y i H x H' → ∀ R : Option V → Hp → Prop, (∀ H4, Same H H4 → R (f a) H4) →
      g x (wipe σ vs) H' fun σ2 H2 => wipe σ2 vs = wipe σ vs ∧ tt σ2 H2 fun b H3 => if b = true then te σ2 H3 (fun y => R (some y)) else R none H3)
    (hd : ∀ H, Same H1 H → H D = some (.lst (l.filterMap f)) → Qd H) :
    ∃ W : Nat → Nat → Hp → Prop, (∃ m, W 0 m (upd H1 D (.lst []))) ∧ ∀ i m H, W i m H →
      (J.stop i H ∧ Qd H) ∨ (J.go i H ∧ ∃ Nx : Hp → Prop, (∀ H', Nx H' → ∃ m', m' < m ∧ W (i + 1) m' H') ∧ ∀ x H', J.yld i H x H' → g x (wipe σ vs) H' fun σ2 H2 => wipe σ2 vs = wipe σ vs ∧ tt σ2 H2 fun b H3 =>
        if b = true then te σ2 H3 fun y H4 => ∃ acc, H4 D = some (.lst acc) ∧ acc.length < sizeLine ∧ Nx (upd H4 D (.lst (acc ++ [y]))) else Nx H3) := by
  refine ⟨fun i m H => m = l.length - i ∧ i ≤ l.length ∧ Same H1 H ∧ H D = some (.lst ((l.take i).filterMap f)), ⟨l.length, by simp, Nat.zero_le _, same_new hD, by rw [upd_same]; simp⟩, ?_⟩
  rintro i m H ⟨rfl, hi, s, hH⟩
  by_cases hlt : i < l.length
  · have ha : l[i]? = some l[i] := List.getElem?_eq_getElem hlt
    have hlen : ((l.take i).filterMap f).length < sizeLine := by
      have h1 := List.length_filterMap_le f (l.take i)
      rw [List.length_take] at h1
      rw [sizeLine_eq]
      omega
    refine .inr ⟨w.goes i H hlt (hG H s), fun H' => Same H1 H' ∧ H' D = some (.lst ((l.take (i + 1)).filterMap f)), fun H' p => ⟨l.length - (i + 1), by omega, rfl, hlt, p⟩, fun x H' y => ?_⟩
    refine hs i _ x H H' ha s (w.yields i H x H' hlt (hG H s) y) (fun o H4 => match o with
      | some y => ∃ acc, H4 D = some (.lst acc) ∧ acc.length < sizeLine ∧ Same H1 (upd H4 D (.lst (acc ++ [y]))) ∧ (upd H4 D (.lst (acc ++ [y]))) D = some (.lst ((l.take (i + 1)).filterMap f))
      | none => Same H1 H4 ∧ H4 D = some (.lst ((l.take (i + 1)).filterMap f))) ?_
    intro H4 s4
    have e4 := s4 D _ hH
    rw [take_fm ha]
    cases e : f l[i] with
    | some y => exact ⟨_, e4, hlen, same_upd (s.trans s4) hD, by rw [upd_same]; rfl⟩
    | none => exact ⟨s.trans s4, by rw [e4]; simp⟩
  · have e : i = l.length := by omega
    subst e
    rw [List.take_length] at hH
    exact .inl ⟨w.stops H (hG H s), hd H s hH⟩
/-- [.. for .. in ..], no test -/
theorem lc_mp {α : Type} (l : List α) (w : Walk J l.length G Y) {g : TG} {te : TE} {vs : List Nat} {σ : L2.St} {H1 : Hp} {D : Addr} {Qd : Hp → Prop} (hD : H1 D = none) (f : α → V) (hn : l.length < 1000000) (hG : ∀ H, Same H1 H → G H)
    (hs : ∀ i a x H H', l[i]? = some a → Same H1 H → Y i H x H' → ∀ R : V → Hp → Prop, (∀ H4, Same H H4 → R (f a) H4) →
      g x (wipe σ vs) H' fun σ2 H2 => wipe σ2 vs = wipe σ vs ∧ te σ2 H2 R)
    (hd : ∀ H, Same H1 H → H D = some (.lst (l.map f)) → Qd H) :
    ∃ W : Nat → Nat → Hp → Prop, (∃ m, W 0 m (upd H1 D (.lst []))) ∧ ∀ i m H, W i m H →
      (J.stop i H ∧ Qd H) ∨ (J.go i H ∧ ∃ Nx : Hp → Prop, (∀ H', Nx H' → ∃ m', m' < m ∧ W (i + 1) m' H') ∧ ∀ x H', J.yld i H x H' → g x (wipe σ vs) H' fun σ2 H2 => wipe σ2 vs = wipe σ vs ∧ tYes σ2 H2 fun b H3 =>
        if b = true then te σ2 H3 fun y H4 => ∃ acc, H4 D = some (.lst acc) ∧ acc.length < sizeLine ∧ Nx (upd H4 D (.lst (acc ++ [y]))) else Nx H3) := by
  refine ⟨fun i m H => m = l.length - i ∧ i ≤ l.length ∧ Same H1 H ∧ H D = some (.lst ((l.take i).map f)), ⟨l.length, by simp, Nat.zero_le _, same_new hD, by rw [upd_same]; simp⟩, ?_⟩
  rintro i m H ⟨rfl, hi, s, hH⟩
  by_cases hlt : i < l.length
  · have ha : l[i]? = some l[i] := List.getElem?_eq_getElem hlt
    have hlen : ((l.take i).map f).length < sizeLine := by
      rw [List.length_map, List.length_take, sizeLine_eq]
      omega
    refine .inr ⟨w.goes i H hlt (hG H s), fun H' => Same H1 H' ∧ H' D = some (.lst ((l.take (i + 1)).map f)), fun H' p => ⟨l.length - (i + 1), by omega, rfl, hlt, p⟩, fun x H' y => ?_⟩
    have q := hs i _ x H H' ha s (w.yields i H x H' hlt (hG H s) y) (fun y H4 => ∃ acc, H4 D = some (.lst acc) ∧ acc.length < sizeLine ∧ Same H1 (upd H4 D (.lst (acc ++ [y]))) ∧ (upd H4 D (.lst (acc ++ [y]))) D = some (.lst ((l.take (i + 1)).map f))) ?_
    · exact q
    intro H4 s4
    have e4 := s4 D _ hH
    refine ⟨_, e4, hlen, same_upd (s.trans s4) hD, ?_⟩
    rw [upd_same, List.take_add_one, ha, List.map_append]
    rfl
  · have e : i = l.length := by omega
    subst e
    rw [List.take_length] at hH
    exact .inl ⟨w.stops H (hG H s), hd H s hH⟩
/-- {.. for .. in ..}: the state by an invariant -/
theorem dc_it (w : Walk J n G Y) {g : TG} {tt : TT} {tk tv : TE} {vs : List Nat} {σ : L2.St} {H1 : Hp} {D : Addr} {Qd : Hp → Prop} (Pv : Nat → Hp → Prop) (h0 : Pv 0 (upd H1 D (.dK []))) (hG : ∀ i H, i ≤ n → Pv i H → G H)
    (hs : ∀ i x H H', i < n → Pv i H → Y i H x H' → g x (wipe σ vs) H' fun σ2 H2 => wipe σ2 vs = wipe σ vs ∧ tt σ2 H2 fun b H3 =>
      if b = true then tk σ2 H3 fun y H4 => tv σ2 H4 fun z H5 => ∃ kvs k, y = kV k ∧ H5 D = some (.dK kvs) ∧ kvs.length < sizeLine ∧ Pv (i + 1) (upd H5 D (.dK (putK kvs k z))) else Pv (i + 1) H3) (hd : ∀ H, Pv n H → Qd H) :
    ∃ W : Nat → Nat → Hp → Prop, (∃ m, W 0 m (upd H1 D (.dK []))) ∧ ∀ i m H, W i m H →
      (J.stop i H ∧ Qd H) ∨ (J.go i H ∧ ∃ Nx : Hp → Prop, (∀ H', Nx H' → ∃ m', m' < m ∧ W (i + 1) m' H') ∧ ∀ x H', J.yld i H x H' → g x (wipe σ vs) H' fun σ2 H2 => wipe σ2 vs = wipe σ vs ∧ tt σ2 H2 fun b H3 =>
        if b = true then tk σ2 H3 fun y H4 => tv σ2 H4 fun z H5 => ∃ kvs k, y = kV k ∧ H5 D = some (.dK kvs) ∧ kvs.length < sizeLine ∧ Nx (upd H5 D (.dK (putK kvs k z))) else Nx H3) := by
  refine ⟨fun i m H => m = n - i ∧ i ≤ n ∧ Pv i H, ⟨n, by simp, Nat.zero_le _, h0⟩, ?_⟩
  rintro i m H ⟨rfl, hi, p⟩
  by_cases hlt : i < n
  · exact .inr ⟨w.goes i H hlt (hG i H hi p), Pv (i + 1), fun H' p' => ⟨n - (i + 1), by omega, rfl, hlt, p'⟩, fun x H' y => hs i x H H' hlt p (w.yields i H x H' hlt (hG i H hi p) y)⟩
  · have e : i = n := by omega
    subst e
    exact .inl ⟨w.stops H (hG i H hi p), hd H p⟩
end
end Vf

set_option maxRecDepth 100000
set_option maxHeartbeats 4000000
namespace Vf
open PySem PySem.Spec PyProof.Rows L2

/-- the text of a number -/
def natS (k : Nat) : Str := Str.ofString (toString (k : Int))
def sRead : Str := "read"
def sWrite : Str := "write"
def sArrow : Str := "->"
def sEnd : Str := "end"
def sSp : Str := " "
def sNl : Str := "\n"
def isNameT (z : Str) : Bool := decide (1 ≤ z.length) && decide (z.length ≤ 8) && z.cps.toList.all fun c => decide (97 ≤ c) && decide (c ≤ 122)
/-- the number of a word, one of many -/
def numOf (many : Nat) (z : Str) : Option Nat := (List.range many).find? fun k => decide (natS k = z)
/-- a node: what it does, its cell, its targets (none: the end) -/
structure Nd where
  word : Str
  cell : Str
  tg : List (Option Nat)
  deriving DecidableEq
def rises : List Nat → Bool
  | [] => true
  | [_] => true
  | a :: b :: r => decide (a < b) && rises (b :: r)
def targetsT (many : Nat) (ws : List Str) : Option (List (Option Nat)) :=
  match ws with
  | [] => some [none]
  | w :: rest =>
    if w ≠ sArrow ∨ rest = [] then none else
    let e := decide (rest.getLast? = some sEnd)
    let named := if e then rest.dropLast else rest
    if named.all fun z => (numOf many z).isSome then
      if rises (named.filterMap (numOf many)) then some ((named.filterMap (numOf many)).map some ++ if e then [none] else []) else none
    else none
def tgOf (many : Nat) (named : List Str) (e : Bool) : Option (List (Option Nat)) :=
  if named.all fun z => (numOf many z).isSome then
    if rises (named.filterMap (numOf many)) then some ((named.filterMap (numOf many)).map some ++ if e then [none] else []) else none
  else none
theorem targetsT_bad {many : Nat} {w : Str} {rest : List Str} (h : w ≠ sArrow) : targetsT many (w :: rest) = none := if_pos (.inl h)
theorem targetsT_bare {many : Nat} : targetsT many [sArrow] = none := by
  show (if sArrow ≠ sArrow ∨ ([] : List Str) = [] then none else tgOf many [] false) = none
  rw [if_pos (.inr rfl)]
theorem targetsT_step {many : Nat} {rs : List Str} {z : Str} : targetsT many (sArrow :: (rs ++ [z])) = tgOf many (if decide (z = sEnd) = true then rs else rs ++ [z]) (decide (z = sEnd)) := by
  have e : targetsT many (sArrow :: (rs ++ [z])) = tgOf many (if decide ((rs ++ [z]).getLast? = some sEnd) = true then (rs ++ [z]).dropLast else rs ++ [z]) (decide ((rs ++ [z]).getLast? = some sEnd)) :=
    if_neg (by simp)
  rw [e, List.getLast?_append, List.dropLast_concat]
  simp only [List.getLast?_singleton, Option.some_or, Option.some.injEq]
def nodeT (many : Nat) (row : Str) : Option Nd :=
  match Txt.split row sSp with
  | w :: c :: rest => if (w = sRead ∨ w = sWrite) ∧ isNameT c = true then (targetsT many rest).map fun t => ⟨w, c, t⟩ else none
  | _ => none
/-- the nodes of the first rows, as far as they are right -/
def nodesT (many : Nat) : List Str → Option (List Nd)
  | [] => some []
  | r :: rs => (nodeT many r).bind fun n => (nodesT many rs).map (n :: ·)
def parseT (z : Str) : Option (List Nd) :=
  let rows := Txt.split z sNl
  if rows.length ≤ 8 then nodesT rows.length rows else none

theorem tl_natS (k : Nat) : TL.tl (natS k) = TL.numL k := TL.tl_num k
theorem natS_inj {a b : Nat} (h : natS a = natS b) : a = b := by
  have e : TL.tl (natS a) = TL.tl (natS b) := by rw [h]
  rw [tl_natS, tl_natS] at e
  exact TL.numL_inj e
theorem numOf_some {many k : Nat} {z : Str} : numOf many z = some k ↔ k < many ∧ natS k = z := by
  unfold numOf
  constructor
  · intro h
    have h1 := List.find?_some (p := fun k => decide (natS k = z)) h
    have h2 := List.mem_of_find?_eq_some h
    exact ⟨List.mem_range.mp h2, of_decide_eq_true h1⟩
  · rintro ⟨h1, h2⟩
    cases e : (List.range many).find? fun k => decide (natS k = z) with
    | none =>
      have := List.find?_eq_none.mp e k (List.mem_range.mpr h1)
      exact absurd (decide_eq_true h2) this
    | some j =>
      have h3 : natS j = z := of_decide_eq_true (List.find?_some (p := fun k => decide (natS k = z)) e)
      rw [natS_inj (h3.trans h2.symm)]
theorem numOf_nat {many k : Nat} (h : k < many) : numOf many (natS k) = some k := numOf_some.mpr ⟨h, rfl⟩

def tgS : Option Nat → Str
  | none => sEnd
  | some k => natS k
def rowW (full : Bool) (n : Nd) : List Str := if full = false ∧ n.tg = [none] then [n.word, n.cell] else n.word :: n.cell :: sArrow :: n.tg.map tgS
def rowS (full : Bool) (n : Nd) : Str := Txt.join sSp (rowW full n)
structure GoodTg (many : Nat) (tg : List (Option Nat)) : Prop where
  ne : tg ≠ []
  sh : ∃ (ks : List Nat) (e : Bool), tg = ks.map some ++ (if e then [none] else []) ∧ rises ks = true ∧ ∀ k ∈ ks, k < many
structure GoodNd (many : Nat) (n : Nd) : Prop where
  word : n.word = sRead ∨ n.word = sWrite
  cell : isNameT n.cell = true
  tg : GoodTg many n.tg
inductive Rows : List Str → List Nd → Prop
  | nil : Rows [] []
  | cons {n : Nd} {rs : List Str} {ns : List Nd} (f : Bool) : Rows rs ns → Rows (rowS f n :: rs) (n :: ns)

theorem tl_sp : TL.tl sSp = [32] := by decide +kernel
theorem tl_nl : TL.tl sNl = [10] := by decide +kernel
theorem tl_end : TL.tl sEnd = [101, 110, 100] := by decide +kernel
theorem natS_ne_end (k : Nat) : natS k ≠ sEnd := fun h => by
  have e : TL.tl (natS k) = TL.tl sEnd := by rw [h]
  rw [tl_natS, tl_end] at e
  exact TL.numL_free (n := k) (s := 101) (by omega) (by rw [e]; decide)
theorem filterMap_nat {many : Nat} : ∀ {ks : List Nat}, (∀ k ∈ ks, k < many) → (ks.map natS).filterMap (numOf many) = ks
  | [], _ => rfl
  | k :: ks, h => by
    rw [List.map_cons, List.filterMap_cons, numOf_nat (h k List.mem_cons_self), filterMap_nat fun z hz => h z (List.mem_cons_of_mem _ hz)]
theorem all_nat {many : Nat} {ks : List Nat} (h : ∀ k ∈ ks, k < many) : ((ks.map natS).all fun z => (numOf many z).isSome) = true := by
  rw [List.all_eq_true]
  intro z hz
  obtain ⟨k, hk, rfl⟩ := List.mem_map.mp hz
  rw [numOf_nat (h k hk)]
  rfl
theorem targetsT_good {many : Nat} {tg : List (Option Nat)} (g : GoodTg many tg) : targetsT many (sArrow :: tg.map tgS) = some tg := by
  obtain ⟨ne, ks, e, rfl, hr, hk⟩ := g
  have hne : (ks.map some ++ (if e then [none] else [])).map tgS ≠ [] := fun z => ne (List.map_eq_nil_iff.mp z)
  have em : (ks.map some ++ (if e then [none] else [])).map tgS = ks.map natS ++ (if e then [sEnd] else []) := by
    rw [List.map_append, List.map_map]
    cases e <;> rfl
  unfold targetsT
  rw [em] at hne ⊢
  dsimp only
  rw [if_neg (by simp only [ne_eq, not_true, false_or]; exact hne)]
  cases e with
  | true =>
    have l1 : decide ((ks.map natS ++ (if true = true then [sEnd] else [])).getLast? = some sEnd) = true := by simp
    have l2 : (ks.map natS ++ (if true = true then [sEnd] else [])).dropLast = ks.map natS := by simp
    rw [l1, if_pos rfl, l2, if_pos (all_nat hk), filterMap_nat hk, if_pos hr]
  | false =>
    have l0 : ks.map natS ++ (if false = true then [sEnd] else []) = ks.map natS := by simp
    rw [l0]
    have l1 : decide ((ks.map natS).getLast? = some sEnd) = false := by
      refine decide_eq_false fun z => ?_
      obtain ⟨k, _, h⟩ := List.mem_map.mp (List.mem_of_getLast? z)
      exact natS_ne_end k h
    rw [l1, if_neg Bool.false_ne_true, if_pos (all_nat hk), filterMap_nat hk, if_pos hr]

/-- words of a row have no blank and no line feed in them -/
def Solid (z : Str) : Prop := ∀ c ∈ TL.tl z, c ≠ 32 ∧ c ≠ 10
theorem solid_of {z : Str} {l : List Nat} (e : TL.tl z = l) (h : (l.all fun c => decide (c ≠ 32) && decide (c ≠ 10)) = true) : Solid z := fun c hc => by
  rw [e] at hc
  have q := List.all_eq_true.mp h c hc
  simpa using q
theorem solid_read : Solid sRead := solid_of (l := [114, 101, 97, 100]) (by decide +kernel) (by decide)
theorem solid_write : Solid sWrite := solid_of (l := [119, 114, 105, 116, 101]) (by decide +kernel) (by decide)
theorem solid_arrow : Solid sArrow := solid_of (l := [45, 62]) (by decide +kernel) (by decide)
theorem solid_end : Solid sEnd := solid_of tl_end (by decide)
theorem solid_nat (k : Nat) : Solid (natS k) := fun c hc => by
  rw [tl_natS] at hc
  exact ⟨fun e => TL.numL_free (n := k) (s := 32) (by omega) (e ▸ hc), fun e => TL.numL_free (n := k) (s := 10) (by omega) (e ▸ hc)⟩
theorem name_signs {z : Str} (h : isNameT z = true) : ∀ c ∈ TL.tl z, 97 ≤ c ∧ c ≤ 122 := fun c hc => by
  unfold isNameT at h
  simp only [Bool.and_eq_true, List.all_eq_true, decide_eq_true_eq] at h
  exact h.2 c hc
theorem name_len {z : Str} (h : isNameT z = true) : 1 ≤ z.length ∧ z.length ≤ 8 := by
  unfold isNameT at h
  simp only [Bool.and_eq_true, decide_eq_true_eq] at h
  exact h.1
theorem solid_name {z : Str} (h : isNameT z = true) : Solid z := fun c hc => by
  have := name_signs h c hc
  omega
theorem solid_tg (t : Option Nat) : Solid (tgS t) := by
  cases t with
  | none => exact solid_end
  | some k => exact solid_nat k
theorem solid_row {many : Nat} {n : Nd} (g : GoodNd many n) (f : Bool) : ∀ z ∈ rowW f n, Solid z := fun z hz => by
  have hw : Solid n.word := by rcases g.word with e | e <;> rw [e] <;> first | exact solid_read | exact solid_write
  unfold rowW at hz
  split at hz
  · rcases List.mem_cons.mp hz with rfl | hz
    · exact hw
    · rw [List.mem_singleton.mp hz]
      exact solid_name g.cell
  · rcases List.mem_cons.mp hz with rfl | hz
    · exact hw
    rcases List.mem_cons.mp hz with rfl | hz
    · exact solid_name g.cell
    rcases List.mem_cons.mp hz with rfl | hz
    · exact solid_arrow
    · obtain ⟨t, _, rfl⟩ := List.mem_map.mp hz
      exact solid_tg t
theorem rowW_ne (f : Bool) (n : Nd) : rowW f n ≠ [] := by
  unfold rowW
  split <;> simp
theorem split_row {many : Nat} {n : Nd} (g : GoodNd many n) (f : Bool) : Txt.split (rowS f n) sSp = rowW f n :=
  TL.split_join (y := sSp) (s := 32) (S := []) tl_sp (by decide +kernel) (rowW_ne f n) fun z hz h => (solid_row g f z hz 32 h).1 rfl
theorem nodeT_good {many : Nat} {n : Nd} (g : GoodNd many n) (f : Bool) : nodeT many (rowS f n) = some n := by
  unfold nodeT
  rw [split_row g f]
  by_cases hf : f = false ∧ n.tg = [none]
  · have e : rowW f n = [n.word, n.cell] := if_pos hf
    rw [e]
    show (if (n.word = sRead ∨ n.word = sWrite) ∧ isNameT n.cell = true then (targetsT many []).map _ else none) = _
    rw [if_pos ⟨g.word, g.cell⟩]
    obtain ⟨w, c, t⟩ := n
    obtain rfl : t = [none] := hf.2
    rfl
  · have e : rowW f n = n.word :: n.cell :: sArrow :: n.tg.map tgS := if_neg hf
    rw [e]
    show (if (n.word = sRead ∨ n.word = sWrite) ∧ isNameT n.cell = true then (targetsT many (sArrow :: n.tg.map tgS)).map _ else none) = _
    rw [if_pos ⟨g.word, g.cell⟩, targetsT_good g.tg]
    rfl
theorem nodesT_good {many : Nat} {rs : List Str} {ns : List Nd} (h : Rows rs ns) (g : ∀ n ∈ ns, GoodNd many n) : nodesT many rs = some ns := by
  induction h with
  | nil => rfl
  | @cons n rs ns f _ ih =>
    unfold nodesT
    rw [nodeT_good (g n List.mem_cons_self) f, ih fun z hz => g z (List.mem_cons_of_mem _ hz)]
    rfl
theorem Rows.len {rs : List Str} {ns : List Nd} (h : Rows rs ns) : rs.length = ns.length := by
  induction h with
  | nil => rfl
  | cons f _ ih => rw [List.length_cons, List.length_cons, ih]
theorem mem_joinL {S : List Nat} {c : Nat} : ∀ {ps : List (List Nat)}, c ∈ TL.joinL S ps → c ∈ S ∨ ∃ p ∈ ps, c ∈ p
  | [], h => by cases h
  | [p], h => .inr ⟨p, List.mem_cons_self, h⟩
  | p :: q :: r, h => by
    have h' : c ∈ p ++ (S ++ TL.joinL S (q :: r)) := h
    rcases List.mem_append.mp h' with h | h
    · exact .inr ⟨p, List.mem_cons_self, h⟩
    rcases List.mem_append.mp h with h | h
    · exact .inl h
    · rcases mem_joinL (ps := q :: r) h with h | ⟨z, hz, hc⟩
      · exact .inl h
      · exact .inr ⟨z, List.mem_cons_of_mem _ hz, hc⟩
theorem row_no_nl {many : Nat} {n : Nd} (g : GoodNd many n) (f : Bool) : 10 ∉ TL.tl (rowS f n) := fun h => by
  unfold rowS at h
  rw [TL.join_eq, TL.tl_join, tl_sp] at h
  rcases mem_joinL h with h | ⟨p, hp, hc⟩
  · revert h
    decide
  · obtain ⟨z, hz, rfl⟩ := List.mem_map.mp hp
    exact (solid_row g f z hz 10 hc).2 rfl
theorem split_rows {many : Nat} {rs : List Str} {ns : List Nd} (h : Rows rs ns) (g : ∀ n ∈ ns, GoodNd many n) (hn : ns ≠ []) : Txt.split (Txt.join sNl rs) sNl = rs := by
  have hne : rs ≠ [] := fun z => hn (List.length_eq_zero_iff.mp (by rw [← h.len, z]; rfl))
  refine TL.split_join (y := sNl) (s := 10) (S := []) tl_nl (by decide +kernel) hne ?_
  clear hn hne
  induction h with
  | nil => exact fun _ hz => nomatch hz
  | @cons n rs ns f _ ih =>
    intro z hz
    rcases List.mem_cons.mp hz with rfl | hz
    · exact row_no_nl (g n List.mem_cons_self) f
    · exact ih (fun y hy => g y (List.mem_cons_of_mem _ hy)) z hz
theorem parse_good {rs : List Str} {ns : List Nd} (h : Rows rs ns) (hn : ns ≠ []) (h8 : ns.length ≤ 8) (g : ∀ n ∈ ns, GoodNd ns.length n) : parseT (Txt.join sNl rs) = some ns := by
  unfold parseT
  rw [split_rows h g hn]
  dsimp only
  rw [h.len, if_pos h8, nodesT_good h g]
end Vf

set_option maxRecDepth 100000
set_option maxHeartbeats 4000000
namespace Vf
open PySem PySem.Spec PyProof.Rows L2
def top (i : Nat) : Stmt := PySem.Challenge.pw_sharedlines_k06_all_layouts_of_cells.main.body.getD i (.Pass ⟨0, 0, 0, 0⟩)
abbrev s_wall : Stmt := top 0
abbrev s_is_integer : Stmt := top 3
abbrev s_is_integer_within : Stmt := top 4
abbrev s_is_name : Stmt := top 5
abbrev s_UnknownCell_init : Stmt := inClass (top 11) 0
abbrev s_Layout_init : Stmt := inClass (top 16) 0
abbrev s_Layout_eq : Stmt := inClass (top 16) 1
abbrev s_Layout_cells : Stmt := inClass (top 16) 2
abbrev s_Layout_line_of : Stmt := inClass (top 16) 3
abbrev s_Layout_moved : Stmt := inClass (top 16) 4
abbrev s_all_layouts : Stmt := top 17
abbrev s_check_cells : Stmt := top 18
abbrev s_check_room : Stmt := top 19
abbrev s_are_lines : Stmt := top 20
abbrev s_is_line : Stmt := top 21
abbrev s_filled : Stmt := top 22
abbrev s_with_cell : Stmt := top 23
abbrev s_law_feed : Stmt := top 25
abbrev s_law_take : Stmt := top 26
abbrev s_law_pick : Stmt := top 27
abbrev s_law_word : Stmt := top 28
abbrev s_law_cells : Stmt := top 29
abbrev s_law_order : Stmt := top 30
abbrev s_law_is : Stmt := top 31
abbrev s_law_every : Stmt := top 32
abbrev s_law : Stmt := top 33
-- _wall: 0:k
abbrev n_wall : List Str := ["k"]
abbrev p_wall : List Str := ["k"]
theorem sc_wall : FnScope n_wall p_wall (defScope s_wall) := ⟨rfl, rfl, rfl, by decide +kernel, rfl, by decide +kernel, by decide +kernel⟩
-- is_integer: 0:value
abbrev n_is_integer : List Str := ["value"]
abbrev p_is_integer : List Str := ["value"]
theorem sc_is_integer : FnScope n_is_integer p_is_integer (defScope s_is_integer) := ⟨rfl, rfl, rfl, by decide +kernel, rfl, by decide +kernel, by decide +kernel⟩
-- is_integer_within: 0:value 1:low 2:high
abbrev n_is_integer_within : List Str := ["value", "low", "high"]
abbrev p_is_integer_within : List Str := ["value", "low", "high"]
theorem sc_is_integer_within : FnScope n_is_integer_within p_is_integer_within (defScope s_is_integer_within) := ⟨rfl, rfl, rfl, by decide +kernel, rfl, by decide +kernel, by decide +kernel⟩
-- is_name: 0:value 1:letter
abbrev n_is_name : List Str := ["value", "letter"]
abbrev p_is_name : List Str := ["value"]
theorem sc_is_name : FnScope n_is_name p_is_name (defScope s_is_name) := ⟨rfl, rfl, rfl, by decide +kernel, rfl, by decide +kernel, by decide +kernel⟩
-- UnknownCell.__init__: 0:self 1:cell
abbrev n_UnknownCell_init : List Str := ["self", "cell"]
abbrev p_UnknownCell_init : List Str := ["self", "cell"]
-- Layout.__init__: 0:self 1:cells 2:room 3:lines 4:name 5:line 6:number
abbrev n_Layout_init : List Str := ["self", "cells", "room", "lines", "name", "line", "number"]
abbrev p_Layout_init : List Str := ["self", "cells", "room", "lines"]
theorem sc_Layout_init : FnScope n_Layout_init p_Layout_init (defScope s_Layout_init) := ⟨rfl, rfl, rfl, by decide +kernel, rfl, by decide +kernel, by decide +kernel⟩
-- Layout.__eq__: 0:self 1:other
abbrev n_Layout_eq : List Str := ["self", "other"]
abbrev p_Layout_eq : List Str := ["self", "other"]
theorem sc_Layout_eq : FnScope n_Layout_eq p_Layout_eq (defScope s_Layout_eq) := ⟨rfl, rfl, rfl, by decide +kernel, rfl, by decide +kernel, by decide +kernel⟩
-- Layout.cells: 0:self
abbrev n_Layout_cells : List Str := ["self"]
abbrev p_Layout_cells : List Str := ["self"]
theorem sc_Layout_cells : FnScope n_Layout_cells p_Layout_cells (defScope s_Layout_cells) := ⟨rfl, rfl, rfl, by decide +kernel, rfl, by decide +kernel, by decide +kernel⟩
-- Layout.line_of: 0:self 1:cell
abbrev n_Layout_line_of : List Str := ["self", "cell"]
abbrev p_Layout_line_of : List Str := ["self", "cell"]
theorem sc_Layout_line_of : FnScope n_Layout_line_of p_Layout_line_of (defScope s_Layout_line_of) := ⟨rfl, rfl, rfl, by decide +kernel, rfl, by decide +kernel, by decide +kernel⟩
-- Layout.moved: 0:self 1:cell 2:line
abbrev n_Layout_moved : List Str := ["self", "cell", "line"]
abbrev p_Layout_moved : List Str := ["self", "cell", "line"]
theorem sc_Layout_moved : FnScope n_Layout_moved p_Layout_moved (defScope s_Layout_moved) := ⟨rfl, rfl, rfl, by decide +kernel, rfl, by decide +kernel, by decide +kernel⟩
-- all_layouts: 0:cells 1:room 2:ways 3:name 4:longer 5:lines 6:line
abbrev n_all_layouts : List Str := ["cells", "room", "ways", "name", "longer", "lines", "line"]
abbrev p_all_layouts : List Str := ["cells", "room"]
theorem sc_all_layouts : FnScope n_all_layouts p_all_layouts (defScope s_all_layouts) := ⟨rfl, rfl, rfl, by decide +kernel, rfl, by decide +kernel, by decide +kernel⟩
-- _check_cells: 0:cells 1:name 2:size
abbrev n_check_cells : List Str := ["cells", "name", "size"]
abbrev p_check_cells : List Str := ["cells"]
theorem sc_check_cells : FnScope n_check_cells p_check_cells (defScope s_check_cells) := ⟨rfl, rfl, rfl, by decide +kernel, rfl, by decide +kernel, by decide +kernel⟩
-- _check_room: 0:room
abbrev n_check_room : List Str := ["room"]
abbrev p_check_room : List Str := ["room"]
theorem sc_check_room : FnScope n_check_room p_check_room (defScope s_check_room) := ⟨rfl, rfl, rfl, by decide +kernel, rfl, by decide +kernel, by decide +kernel⟩
-- _are_lines: 0:sizes 1:room 2:lines 3:line 4:name
abbrev n_are_lines : List Str := ["sizes", "room", "lines", "line", "name"]
abbrev p_are_lines : List Str := ["sizes", "room", "lines"]
theorem sc_are_lines : FnScope n_are_lines p_are_lines (defScope s_are_lines) := ⟨rfl, rfl, rfl, by decide +kernel, rfl, by decide +kernel, by decide +kernel⟩
-- _is_line: 0:sizes 1:room 2:line 3:name
abbrev n_is_line : List Str := ["sizes", "room", "line", "name"]
abbrev p_is_line : List Str := ["sizes", "room", "line"]
theorem sc_is_line : FnScope n_is_line p_is_line (defScope s_is_line) := ⟨rfl, rfl, rfl, by decide +kernel, rfl, by decide +kernel, by decide +kernel⟩
-- _filled: 0:sizes 1:line 2:name
abbrev n_filled : List Str := ["sizes", "line", "name"]
abbrev p_filled : List Str := ["sizes", "line"]
theorem sc_filled : FnScope n_filled p_filled (defScope s_filled) := ⟨rfl, rfl, rfl, by decide +kernel, rfl, by decide +kernel, by decide +kernel⟩
-- _with_cell: 0:sizes 1:room 2:lines 3:name 4:ways 5:number 6:line 7:longer
abbrev n_with_cell : List Str := ["sizes", "room", "lines", "name", "ways", "number", "line", "longer"]
abbrev p_with_cell : List Str := ["sizes", "room", "lines", "name"]
theorem sc_with_cell : FnScope n_with_cell p_with_cell (defScope s_with_cell) := ⟨rfl, rfl, rfl, by decide +kernel, rfl, by decide +kernel, by decide +kernel⟩
-- _law_feed: 0:script 1:k 2:cell 3:digits 4:state
abbrev n_law_feed : List Str := ["script", "k", "cell", "digits", "state"]
abbrev p_law_feed : List Str := ["script", "k"]
theorem sc_law_feed : FnScope n_law_feed p_law_feed (defScope s_law_feed) := ⟨rfl, rfl, rfl, by decide +kernel, rfl, by decide +kernel, by decide +kernel⟩
-- _law_take: 0:feed 1:many 2:digit
abbrev n_law_take : List Str := ["feed", "many", "digit"]
abbrev p_law_take : List Str := ["feed", "many"]
theorem sc_law_take : FnScope n_law_take p_law_take (defScope s_law_take) := ⟨rfl, rfl, rfl, by decide +kernel, rfl, by decide +kernel, by decide +kernel⟩
-- _law_pick: 0:feed 1:some
abbrev n_law_pick : List Str := ["feed", "some"]
abbrev p_law_pick : List Str := ["feed", "some"]
theorem sc_law_pick : FnScope n_law_pick p_law_pick (defScope s_law_pick) := ⟨rfl, rfl, rfl, by decide +kernel, rfl, by decide +kernel, by decide +kernel⟩
-- _law_word: 0:feed 1:found 2:turn
abbrev n_law_word : List Str := ["feed", "found", "turn"]
abbrev p_law_word : List Str := ["feed"]
theorem sc_law_word : FnScope n_law_word p_law_word (defScope s_law_word) := ⟨rfl, rfl, rfl, by decide +kernel, rfl, by decide +kernel, by decide +kernel⟩
-- _law_cells: 0:feed 1:most 2:names 3:sizes 4:pairs 5:turn 6:name
abbrev n_law_cells : List Str := ["feed", "most", "names", "sizes", "pairs", "turn", "name"]
abbrev p_law_cells : List Str := ["feed", "most"]
theorem sc_law_cells : FnScope n_law_cells p_law_cells (defScope s_law_cells) := ⟨rfl, rfl, rfl, by decide +kernel, rfl, by decide +kernel, by decide +kernel⟩
-- _law_order: 0:lines 1:line
abbrev n_law_order : List Str := ["lines", "line"]
abbrev p_law_order : List Str := ["lines"]
theorem sc_law_order : FnScope n_law_order p_law_order (defScope s_law_order) := ⟨rfl, rfl, rfl, by decide +kernel, rfl, by decide +kernel, by decide +kernel⟩
-- _law_is: 0:layout 1:cells 2:room 3:lines 4:due 5:number 6:line 7:name
abbrev n_law_is : List Str := ["layout", "cells", "room", "lines", "due", "number", "line", "name"]
abbrev p_law_is : List Str := ["layout", "cells", "room", "lines"]
theorem sc_law_is : FnScope n_law_is p_law_is (defScope s_law_is) := ⟨rfl, rfl, rfl, by decide +kernel, rfl, by decide +kernel, by decide +kernel⟩
-- _law_every: 0:cells 1:room 2:names 3:found 4:waiting 5:lines 6:rest 7:some 8:name 9:one 10:line 11:left
abbrev n_law_every : List Str := ["cells", "room", "names", "found", "waiting", "lines", "rest", "some", "name", "one", "line", "left"]
abbrev p_law_every : List Str := ["cells", "room"]
theorem sc_law_every : FnScope n_law_every p_law_every (defScope s_law_every) := ⟨rfl, rfl, rfl, by decide +kernel, rfl, by decide +kernel, by decide +kernel⟩
-- law: 0:script 1:k 2:feed 3:cells 4:low 5:room 6:before 7:due 8:found 9:one 10:name 11:many 12:lines
abbrev n_law : List Str := ["script", "k", "feed", "cells", "low", "room", "before", "due", "found", "one", "name", "many", "lines"]
abbrev p_law : List Str := ["script"]
theorem sc_law : FnScope n_law p_law (defScope s_law) := ⟨rfl, rfl, rfl, by decide +kernel, rfl, by decide +kernel, by decide +kernel⟩

def OkF (P : Program) (w : World) (K : PySem.W.Frag) (mg : Str → Option Value) (base : Heap) (CX : CXT) (x : Str) (ps : List Str) (k : Nat) (sp : Sp) : Prop :=
  ∃ (f : Addr) (fd : FuncData), mg x = some (.ref f) ∧ PySem.W.keepIn K (.ref f) = true ∧ Binds K fd ps [] ∧ FnOk P w K mg base CX k f fd ps sp
theorem pe_fn {X : Cx} {CX : CXT} {x : Str} {ps : List Str} {k : Nat} {sp : Sp} {E : XK} {e : Expr} {es : List Expr} {t : TA} {p pos : Pos} (G : OkF X.prog X.w X.K X.mg X.base CX x ps k sp) (hr : Room k X.A) (hg : Gl X x) (hx : Passes CX X E)
    (ha : PA X (e :: es) t) (hdb : (x == ("__debug__" : Str)) = false := by decide) (he : starEach (e :: es) X.env = (false, eval e X.env) :: starEach es X.env := by rfl) (hpl : (backTo pos (starEach es X.env)).any (·.1) = false := by rfl) :
    PE X (.Call (.Name x p) (e :: es) [] pos) (tCall sp [] E t) := by
  obtain ⟨f, fd, hm, hk, hb, F⟩ := G
  exact pe_call F hr hg hm hk hb .nil hx ha hdb he hpl
/-- what the top leaves: names that are still the built-ins, constants -/
structure Txt0 (K : PySem.W.Frag) (mg : Str → Option Value) : Prop where
  len : mg "len" = none
  isinstance : mg "isinstance" = none
  all : mg "all" = none
  str : mg "str" = none
  int : mg "int" = none
  bool : mg "bool" = none
  dict : mg "dict" = none
  list : mg "list" = none
  sum : mg "sum" = none
  longest : ∃ t, mg "LONGEST_NAME" = some (.int 8 t)
  cells : ∃ t, mg "MOST_CELLS" = some (.int 6 t)
  size : ∃ t, mg "LARGEST_SIZE" = some (.int 8 t)
  room : ∃ t, mg "LARGEST_ROOM" = some (.int 32 t)
  sorted : mg "sorted" = none
  tuple : mg "tuple" = none
  enumerate : mg "enumerate" = none
  max : mg "max" = none
end Vf

set_option maxRecDepth 100000
set_option maxHeartbeats 4000000
namespace Vf
open PySem PySem.Spec PyProof.Rows L2
section
variable {P : Program} {w : World} {K : PySem.W.Frag} {mg : Str → Option Value} {base : Heap}
theorem lt_one (a b : Nat) : (decide ([a] < [b]) : Bool) = decide (a < b) := by
  refine decide_eq_decide.mpr ⟨fun q => ?_, fun h => List.Lex.rel h⟩
  cases q with
  | rel q => exact q
  | cons q => cases q
theorem cps_size (z : Str) : z.cps.toList.length = z.length := by simp [Str.length]
/-- is_name(text) -/
def sp_is_name : Sp := fun vs H Q _ => ∃ z : Str, vs = [.str z] ∧ z.length ≤ 1000000 ∧ ∀ H', Same H H' → Q (.bl (isNameT z)) H'
theorem ok_is_name {f : Addr} {fd : FuncData} (F : Fun K "is_name" "is_name" s_is_name f fd) (T : Txt0 K mg) : FnOk P w K mg base CX0 1 f fd p_is_name sp_is_name := by
  refine F.ok sc_is_name (fun vs H Q E h => ?_) (fun cdv A outer s H vs Q E hr h => ?_)
  · obtain ⟨z, rfl, _⟩ := h
    rfl
  · obtain ⟨z, rfl, hz, k⟩ := h
    obtain ⟨t8, e8⟩ := T.longest
    refine ⟨_, pss_cons (ps_if (PW.pt (pw_or (pt_not (pt_val (pe_callB call_isi (by rfl) T.isinstance boot_isinstance (pa_cons (pv 0) (pa_cons (pe_bltn (by rfl) T.str boot_str (v := .ty "str") rfl) pa_nil)))))
        (pw_or1 (pt_not (pt_chain op_le op_le pe_int (pe_callB call_len_str (by rfl) T.len PySem.boot_len (pa_cons (pv 0) pa_nil)) (pe_glob (v := .int 8) rfl e8 ⟨_, rfl⟩))))))
        (pss_one (ps_ret pe_bl)) pss_nil)
      (pss_one (ps_ret (pe_callB (cr_all rfl) (by rfl) T.all (by decide +kernel)
        (pa_cons (pe_lc (own := [("letter", 1)]) (g := gName 1) (tt := tYes) rfl sc_is_name.nd (pi_str (pv 0)) (blkOk_by (N := n_is_name) (sc := defScope s_is_name) (by decide +kernel))
          (fun _ _ _ _ _ => pg_name (i := 1) sc_is_name.nd rfl (Or.inl rfl)) (fun _ _ _ _ _ => pts_nil)
          (fun _ _ _ _ _ => pe_chain op_le_str op_le_str pe_str (pv 1) pe_str)) pa_nil)))), ?_⟩
    have hzl : z.length ≤ sizeLine := Nat.le_trans hz (by decide)
    refine ⟨_, rfl, _, _, _, _, true, rfl, .ty _, .base (.str _), kit_ty (by decide +kernel), _, rfl, iteF ?_⟩
    refine ⟨_, rfl, z, rfl, hzl, 1, (z.length : Int), rfl, rfl, decide ((1 : Int) ≤ z.length), rfl, ?_⟩
    have out : isNameT z = false → Q (.bl false) H := fun e => e ▸ k H (Same.refl H)
    by_cases h1 : (1 : Int) ≤ z.length
    case neg =>
      rw [decide_eq_false h1]
      refine iteF ⟨_, rfl, iteT (out ?_)⟩
      unfold isNameT
      rw [decide_eq_false (by omega)]
      rfl
    rw [decide_eq_true h1]
    refine iteT ⟨_, _, rfl, rfl, ⟨_, rfl, ?_⟩⟩
    by_cases h2 : (z.length : Int) ≤ 8
    case neg =>
      rw [decide_eq_false h2]
      refine iteT (out ?_)
      unfold isNameT
      rw [decide_eq_false (p := z.length ≤ 8) (by omega), Bool.and_false]
      rfl
    rw [decide_eq_true h2]
    refine iteF ?_
    have wz : Walk (Its z) z.cps.toList.length (fun _ => True) (fun i H v H' => H' = H ∧ ∃ c, z.cps[i]? = some c ∧ v = .str ⟨#[c]⟩) := by
      rw [cps_size]
      exact walk_str
    refine ⟨_, rfl, z, rfl, fun D hD => lc_mp z.cps.toList wz hD (fun c => .bl (decide (97 ≤ c) && decide (c ≤ 122))) (by rw [cps_size]; omega) (fun _ _ => trivial) ?_ ?_⟩
    · rintro i c x H2 H3 hc s2 ⟨rfl, c', hc', rfl⟩ R hR
      obtain rfl : c' = c := by
        rw [Array.getElem?_toList] at hc
        exact Option.some.inj (hc'.symm.trans hc)
      have ea : ("a" : Str).cps.toList = [97] := by decide +kernel
      have ez : ("z" : Str).cps.toList = [122] := by decide +kernel
      refine ⟨rfl, _, rfl, _, _, rfl, rfl, _, rfl, ?_⟩
      have e1 : (!decide ([c'] < ("a" : Str).cps.toList)) = decide (97 ≤ c') := by
        rw [ea, lt_one, ← decide_not]
        exact decide_eq_decide.mpr Nat.not_lt
      have e2 : (!decide (("z" : Str).cps.toList < [c'])) = decide (c' ≤ 122) := by
        rw [ez, lt_one, ← decide_not]
        exact decide_eq_decide.mpr Nat.not_lt
      show if (!decide ([c'] < ("a" : Str).cps.toList)) = true then _ else _
      rw [e1]
      have hk := hR H3 (Same.refl H3)
      by_cases g1 : 97 ≤ c'
      · rw [decide_eq_true g1, Bool.true_and] at hk
        rw [decide_eq_true g1]
        refine iteT ⟨_, _, rfl, rfl, ?_⟩
        show R (.bl (!decide (("z" : Str).cps.toList < [c']))) H3
        rw [e2]
        exact hk
      · rw [decide_eq_false g1, Bool.false_and] at hk
        rw [decide_eq_false g1]
        exact iteF hk
    · intro H2 s2 hL
      refine ⟨D, z.cps.toList.map fun c => decide (97 ≤ c) && decide (c ≤ 122), rfl, ?_, ?_⟩
      · rw [List.map_map]
        exact SqL.of hL
      · rw [List.all_map]
        have e : isNameT z = (z.cps.toList.all fun c => decide (97 ≤ c) && decide (c ≤ 122)) := by
          unfold isNameT
          rw [decide_eq_true (p := 1 ≤ z.length) (by omega), decide_eq_true (p := z.length ≤ 8) (by omega), Bool.true_and, Bool.true_and]
        have q := k H2 s2
        rw [e] at q
        exact q
end
end Vf

set_option maxRecDepth 100000
set_option maxHeartbeats 4000000
namespace Vf
open PySem PySem.Spec PyProof.Rows L2
mutual
def plainD : PyData → Bool
  | .none => true
  | .bool _ => false
  | .int _ => true
  | .str x => PyData.strOk x
  | .list xs => plainAll xs
  | .tuple xs => plainAll xs
  | .dict _ => false
def plainAll : List PyData → Bool
  | [] => true
  | x :: xs => plainD x && plainAll xs
end
mutual
theorem eqv_iff : ∀ d e : PyData, plainD d = true → plainD e = true → (PyData.eqv d e = true ↔ d = e)
  | .bool _, _, h, _ => by simp [plainD] at h
  | .dict _, _, h, _ => by simp [plainD] at h
  | .none, e, _, h => by cases e <;> simp_all [PyData.eqv, plainD]
  | .int i, e, _, h => by cases e <;> simp_all [PyData.eqv, plainD]
  | .str x, e, _, h => by cases e <;> simp_all [PyData.eqv, plainD]
  | .list xs, e, h1, h => by
    cases e with
    | list ys =>
      have := eqvAll_iff xs ys (by simpa [plainD] using h1) (by simpa [plainD] using h)
      simp only [PyData.eqv, PyData.list.injEq]
      exact this
    | _ => simp_all [PyData.eqv, plainD]
  | .tuple xs, e, h1, h => by
    cases e with
    | tuple ys =>
      have := eqvAll_iff xs ys (by simpa [plainD] using h1) (by simpa [plainD] using h)
      simp only [PyData.eqv, PyData.tuple.injEq]
      exact this
    | _ => simp_all [PyData.eqv, plainD]
theorem eqvAll_iff : ∀ xs ys : List PyData, plainAll xs = true → plainAll ys = true → (PyData.eqvAll xs ys = true ↔ xs = ys)
  | [], [], _, _ => by simp [PyData.eqvAll]
  | [], _ :: _, _, _ => by simp [PyData.eqvAll]
  | _ :: _, [], _, _ => by simp [PyData.eqvAll]
  | x :: xs, y :: ys, h1, h2 => by
    simp only [plainAll, Bool.and_eq_true] at h1 h2
    simp only [PyData.eqvAll, Bool.and_eq_true, List.cons.injEq, eqv_iff x y h1.1 h2.1, eqvAll_iff xs ys h1.2 h2.2]
end
mutual
theorem canLay_plain : ∀ d : PyData, plainD d = true → d.canLay0 = true
  | .none, _ => by simp [PyData.canLay0]
  | .bool _, h => by simp [plainD] at h
  | .int _, _ => by simp [PyData.canLay0]
  | .str x, h => by simpa [PyData.canLay0, plainD] using h
  | .list xs, h => by
    simp only [PyData.canLay0]
    exact canLayAll_plain xs (by simpa [plainD] using h)
  | .tuple xs, h => by
    simp only [PyData.canLay0]
    exact canLayAll_plain xs (by simpa [plainD] using h)
  | .dict _, h => by simp [plainD] at h
theorem canLayAll_plain : ∀ xs : List PyData, plainAll xs = true → PyData.canLayAll0 xs = true
  | [], _ => by simp [PyData.canLayAll0]
  | x :: xs, h => by
    simp only [plainAll, Bool.and_eq_true] at h
    simp only [PyData.canLayAll0, Bool.and_eq_true]
    exact ⟨canLay_plain x h.1, canLayAll_plain xs h.2⟩
end
theorem shaped_of {d : PyData} (h : plainD d = true) (hd : d.depth ≤ 64) : SeqAt.shaped d = true := by
  unfold SeqAt.shaped
  rw [canLay_plain d h, decide_eq_true hd]
  rfl
theorem eqv_dec {d e : PyData} {p : Prop} [Decidable p] (h1 : plainD d = true) (h2 : plainD e = true) (hp : d = e ↔ p) : PyData.eqv d e = decide p := by
  by_cases h : p
  · rw [decide_eq_true h]
    exact (eqv_iff d e h1 h2).mpr (hp.mpr h)
  · rw [decide_eq_false h]
    cases q : PyData.eqv d e with
    | false => rfl
    | true => exact absurd (hp.mp ((eqv_iff d e h1 h2).mp q)) h
theorem plain_ints : ∀ ns : List Int, plainAll (ns.map PyData.int) = true
  | [] => rfl
  | n :: ns => by simp only [List.map_cons, plainAll, plainD, Bool.true_and, plain_ints ns]
theorem depth_ints : ∀ ns : List Int, PyData.depthAll (ns.map PyData.int) = 0
  | [] => rfl
  | n :: ns => by simp only [List.map_cons, PyData.depthAll, PyData.depth, depth_ints ns, Nat.max_self]
theorem dp_ints {K : PySem.W.Frag} {H : Hp} : ∀ ns : List Int, DpAll K H (ns.map V.int) (ns.map PyData.int)
  | [] => .nil
  | n :: ns => .cons (.int n) (dp_ints ns)
theorem map_int_inj {a b : List Int} : PyData.list (a.map PyData.int) = PyData.list (b.map PyData.int) ↔ a = b := by
  refine ⟨fun h => ?_, fun h => by rw [h]⟩
  have h' : a.map PyData.int = b.map PyData.int := by injection h
  clear h
  induction a generalizing b with
  | nil => cases b <;> simp_all
  | cons x a ih =>
    cases b with
    | nil => cases h'
    | cons y b =>
      rw [List.map_cons, List.map_cons] at h'
      injection h' with h1 h2
      injection h1 with h3
      rw [h3, ih h2]
theorem shaped_ints (ns : List Int) : SeqAt.shaped (.list (ns.map PyData.int)) = true :=
  shaped_of (by simp only [plainD, plain_ints]) (by simp only [PyData.depth, depth_ints]; decide)
theorem eqv_ints (a b : List Int) : PyData.eqv (.list (a.map PyData.int)) (.list (b.map PyData.int)) = decide (a = b) :=
  eqv_dec (by simp only [plainD, plain_ints]) (by simp only [plainD, plain_ints]) map_int_inj
theorem rises_iff : ∀ l : List Nat, rises l = true ↔ l.Pairwise (· < ·)
  | [] => by simp [rises]
  | [a] => by simp [rises]
  | a :: b :: r => by
    have ih := rises_iff (b :: r)
    simp only [rises, Bool.and_eq_true, decide_eq_true_eq, ih]
    constructor
    · rintro ⟨h1, h2⟩
      refine List.pairwise_cons.mpr ⟨fun x hx => ?_, h2⟩
      rcases List.mem_cons.mp hx with rfl | hx
      · exact h1
      · exact Nat.lt_trans h1 ((List.pairwise_cons.mp h2).1 x hx)
    · intro h
      exact ⟨(List.pairwise_cons.mp h).1 b List.mem_cons_self, (List.pairwise_cons.mp h).2⟩
theorem sorted_same : ∀ {a b : List Int}, a.Pairwise (· < ·) → b.Pairwise (· < ·) → (∀ x, x ∈ a ↔ x ∈ b) → a = b
  | [], [], _, _, _ => rfl
  | [], y :: b, _, _, h => absurd ((h y).mpr List.mem_cons_self) (by simp)
  | x :: a, [], _, _, h => absurd ((h x).mp List.mem_cons_self) (by simp)
  | x :: a, y :: b, ha, hb, h => by
    have a1 := List.pairwise_cons.mp ha
    have b1 := List.pairwise_cons.mp hb
    have e : x = y := by
      rcases List.mem_cons.mp ((h x).mp List.mem_cons_self) with e | e
      · exact e
      · rcases List.mem_cons.mp ((h y).mpr List.mem_cons_self) with e2 | e2
        · exact e2.symm
        · have := b1.1 x e
          have := a1.1 y e2
          omega
    subst e
    rw [sorted_same a1.2 b1.2 fun z => ?_]
    constructor
    · intro hz
      rcases List.mem_cons.mp ((h z).mp (List.mem_cons_of_mem _ hz)) with e | e
      · have := a1.1 z hz
        omega
      · exact e
    · intro hz
      rcases List.mem_cons.mp ((h z).mpr (List.mem_cons_of_mem _ hz)) with e | e
      · have := b1.1 z hz
        omega
      · exact e
/-- a list of numbers is its own sorted set just if it rises -/
theorem rises_set {ts : List Nat} {ns : List Int} (hs : ns.Pairwise (· < ·)) (hm : ∀ k : Int, k ∈ ns ↔ k ∈ ts.map Int.ofNat) : ts.map Int.ofNat = ns ↔ rises ts = true := by
  rw [rises_iff]
  have hp : (ts.map Int.ofNat).Pairwise (· < ·) ↔ ts.Pairwise (· < ·) := by
    rw [List.pairwise_map]
    constructor <;> intro h <;> refine h.imp fun {a b} q => ?_
    · exact Int.ofNat_lt.mp q
    · exact Int.ofNat_lt.mpr q
  rw [← hp]
  constructor
  · intro e
    rw [e]
    exact hs
  · intro h
    exact sorted_same h hs fun x => (hm x).symm
end Vf

set_option maxRecDepth 100000
set_option maxHeartbeats 4000000
namespace Vf
open PySem PySem.Spec PyProof.Rows L2
theorem contains_iff {x y : Str} : Txt.contains x y = true ↔ ∃ a b : List Nat, TL.tl x = a ++ (TL.tl y ++ b) := by
  unfold Txt.contains
  rw [PySem.StrLaws.found_iff]
  constructor
  · rintro ⟨i, h1, h2⟩
    rw [PySem.StrLaws.subAt_eq, beq_iff_eq] at h2
    refine ⟨(TL.tl x).take i, ((TL.tl x).drop i).drop y.length, ?_⟩
    have h3 : ((TL.tl x).drop i).take y.length = TL.tl y := h2
    rw [← h3, List.take_append_drop, List.take_append_drop]
  · rintro ⟨a, b, e⟩
    refine ⟨a.length, ?_, ?_⟩
    · rw [TL.len_tl, TL.len_tl, e]
      simp only [List.length_append]
      omega
    · rw [PySem.StrLaws.subAt_eq, beq_iff_eq]
      show ((TL.tl x).drop a.length).take y.length = TL.tl y
      rw [e, List.drop_left, TL.len_tl, List.take_left]
/-- y in x, both texts -/
def rInT : R2 := fun x y H Q => ∃ a b : Str, x = .str a ∧ y = .str b ∧ Q (.bl (Txt.contains b a)) H
theorem op_inT {X : Cx} : OpR X (compareOp .In) rInT := by
  intro pins s σ H x y v u Q I rx ry h
  obtain ⟨a, b, rfl, rfl, q⟩ := h
  obtain ⟨t, rfl⟩ := rx
  obtain ⟨t', rfl⟩ := ry
  exact PyProof.Rows.in_str ⟨.bl (Txt.contains b a), H, I, rfl, q⟩
end Vf

set_option maxRecDepth 100000
set_option maxHeartbeats 8000000
namespace Vf
open PySem PySem.Spec PyProof.Rows L2
/-- cells with sizes, as a dict -/
def cellKv (cs : List (Str × Nat)) : List (Key × V) := cs.map fun p => (Sum.inr p.1, V.int (p.2 : Int))
structure GoodCs (cs : List (Str × Nat)) : Prop where
  some : cs ≠ []
  few : cs.length ≤ 6
  name : ∀ p ∈ cs, isNameT p.1 = true
  size : ∀ p ∈ cs, 1 ≤ p.2 ∧ p.2 ≤ 8
  nd : (cs.map Prod.fst).Nodup
section
variable {P : Program} {w : World} {K : PySem.W.Frag} {mg : Str → Option Value} {base : Heap}
def sp_is_int : Sp := fun vs H Q _ => ∃ v : Int, vs = [.int v] ∧ Q (.bl true) H
theorem ok_is_int {f : Addr} {fd : FuncData} (F : Fun K "is_integer" "is_integer" s_is_integer f fd) (T : Txt0 K mg) : FnOk P w K mg base CX0 1 f fd p_is_integer sp_is_int := by
  refine F.ok sc_is_integer (fun vs H Q E h => ?_) (fun cdv A outer s H vs Q E hr h => ?_)
  · obtain ⟨v, rfl, _⟩ := h
    rfl
  · obtain ⟨v, rfl, k⟩ := h
    refine ⟨_, pss_one (ps_ret (pe_and (ta := tCB (rIsi K) (tCons (tVar 0) (tCons (tC (.ty "int")) tNil))) (pe_callB call_isi (by rfl) T.isinstance boot_isinstance (pa_cons (pv 0) (pa_cons (pe_bltn (by rfl) T.int (by decide +kernel) (v := .ty "int") rfl) pa_nil)))
        (pe_one (pe_not (ta := tCB (rIsi K) (tCons (tVar 0) (tCons (tC (.ty "bool")) tNil))) (pe_callB call_isi (by rfl) T.isinstance boot_isinstance (pa_cons (pv 0) (pa_cons (pe_bltn (by rfl) T.bool (by decide +kernel) (v := .ty "bool") rfl) pa_nil))))))), ?_⟩
    refine ⟨_, rfl, _, _, _, _, true, rfl, .ty _, .base (.int _), kit_ty (by decide +kernel), true, rfl, iteT ?_⟩
    exact ⟨_, rfl, _, _, _, _, false, rfl, .ty _, .base (.int _), kit_ty (by decide +kernel), _, rfl, k⟩
def sp_within : Sp := fun vs H Q _ => ∃ v lo hi : Int, vs = [.int v, .int lo, .int hi] ∧ Q (.bl (decide (lo ≤ v) && decide (v ≤ hi))) H
theorem ok_within {f : Addr} {fd : FuncData} (F : Fun K "is_integer_within" "is_integer_within" s_is_integer_within f fd) (GI : OkF P w K mg base CX0 "is_integer" p_is_integer 1 sp_is_int) : FnOk P w K mg base CX0 2 f fd p_is_integer_within sp_within := by
  refine F.ok sc_is_integer_within (fun vs H Q E h => ?_) (fun cdv A outer s H vs Q E hr h => ?_)
  · obtain ⟨v, lo, hi, rfl, _⟩ := h
    rfl
  · obtain ⟨v, lo, hi, rfl, k⟩ := h
    refine ⟨_, pss_one (ps_ret (pe_and (ta := tCall sp_is_int [] E0 (tCons (tVar 0) tNil)) (pe_fn GI hr rfl pass0 (pa_cons (pv 0) pa_nil)) (pe_one (pe_chain op_le op_le (pv 1) (pv 0) (pv 2))))), ?_⟩
    refine ⟨_, rfl, v, rfl, true, rfl, iteT ⟨_, rfl, _, rfl, lo, v, rfl, rfl, decide (lo ≤ v), rfl, ?_⟩⟩
    by_cases h1 : lo ≤ v
    · rw [decide_eq_true h1] at k ⊢
      rw [Bool.true_and] at k
      exact iteT ⟨_, rfl, _, _, rfl, rfl, k⟩
    · rw [decide_eq_false h1] at k ⊢
      rw [Bool.false_and] at k
      exact iteF k
def sp_check_room : Sp := fun vs H Q _ => ∃ r : Nat, vs = [.int (r : Int)] ∧ 1 ≤ r ∧ r ≤ 32 ∧ Q .non H
theorem ok_check_room {f : Addr} {fd : FuncData} (F : Fun K "_check_room" "_check_room" s_check_room f fd) (T : Txt0 K mg) (GI : OkF P w K mg base CX0 "is_integer_within" p_is_integer_within 2 sp_within) : FnOk P w K mg base CX0 3 f fd p_check_room sp_check_room := by
  refine F.ok sc_check_room (fun vs H Q E h => ?_) (fun cdv A outer s H vs Q E hr h => ?_)
  · obtain ⟨r, rfl, _⟩ := h
    rfl
  · obtain ⟨r, rfl, h1, h2, k⟩ := h
    obtain ⟨t, er⟩ := T.room
    refine ⟨_, pss_one (ps_if (pt_not (pt_val (pe_fn GI hr rfl pass0 (pa_cons (pv 0) (pa_cons pe_int (pa_cons (pe_glob (v := .int 32) rfl er ⟨_, rfl⟩) pa_nil)))))) (pss_one ps_never) pss_nil), ?_⟩
    refine ⟨_, rfl, (r : Int), 1, 32, rfl, _, rfl, ?_⟩
    rw [decide_eq_true (p := (1 : Int) ≤ r) (by omega), decide_eq_true (p := (r : Int) ≤ 32) (by omega)]
    exact iteF k
end
end Vf

set_option maxRecDepth 100000
set_option maxHeartbeats 8000000
namespace Vf
open PySem PySem.Spec PyProof.Rows L2
def sizeOf? (cs : List (Str × Nat)) (z : Str) : Option Nat := (cs.find? fun p => decide (p.1 = z)).map (·.2)
def sizeOfD (cs : List (Str × Nat)) (z : Str) : Nat := (sizeOf? cs z).getD 0
theorem valV_cells {cs : List (Str × Nat)} {z : Str} : valV (cellKv cs) (Sum.inr z) = (sizeOf? cs z).map fun (k : Nat) => V.int (k : Int) := by
  unfold cellKv sizeOf?
  induction cs with
  | nil => rfl
  | cons p l ih =>
    rw [List.map_cons, List.find?_cons]
    by_cases h : p.1 = z
    · rw [decide_eq_true h, valV_pos (by rw [h])]
      rfl
    · rw [decide_eq_false h, valV_neg (fun e => h (Sum.inr.inj e)), ih]
theorem size_some {cs : List (Str × Nat)} {z : Str} (h : z ∈ cs.map Prod.fst) : sizeOf? cs z = some (sizeOfD cs z) := by
  unfold sizeOfD
  cases e : sizeOf? cs z with
  | some k => rfl
  | none =>
    unfold sizeOf? at e
    rw [Option.map_eq_none_iff, List.find?_eq_none] at e
    obtain ⟨p, hp, rfl⟩ := List.mem_map.mp h
    exact absurd (decide_eq_true rfl) (e p hp)
theorem size_le {cs : List (Str × Nat)} (g : GoodCs cs) (z : Str) : sizeOfD cs z ≤ 8 := by
  unfold sizeOfD sizeOf?
  cases e : cs.find? fun p => decide (p.1 = z) with
  | none => simp
  | some p => exact (g.size p (List.mem_of_find?_eq_some e)).2
def total (cs : List (Str × Nat)) (ws : List Str) : Nat := (ws.map (sizeOfD cs)).sum
section
variable {P : Program} {w : World} {K : PySem.W.Frag} {mg : Str → Option Value} {base : Heap}
def sp_filled (K : PySem.W.Frag) : Sp := fun vs H Q _ => ∃ (d l : Addr) (cs : List (Str × Nat)) (ws : List Str), vs = [.ref d, .ref l] ∧ H d = some (.dK (cellKv cs)) ∧ SqL K H l (ws.map V.str) ∧ ws.length ≤ 1000 ∧ (∀ z ∈ ws, z ∈ cs.map Prod.fst) ∧ ∀ H', Same H H' → Q (.int (total cs ws : Nat)) H'
theorem ok_filled {f : Addr} {fd : FuncData} (F : Fun K "_filled" "_filled" s_filled f fd) (T : Txt0 K mg) : FnOk P w K mg base CX0 1 f fd p_filled (sp_filled K) := by
  refine F.ok sc_filled (fun vs H Q E h => ?_) (fun cdv A outer s H vs Q E hr h => ?_)
  · obtain ⟨d, l, cs, ws, rfl, _⟩ := h
    rfl
  · obtain ⟨d, l, cs, ws, rfl, hd, hl, few, hin, k⟩ := h
    refine ⟨_, pss_one (ps_ret (pe_callB (cr_sum rfl) (by rfl) T.sum (by decide +kernel) (pa_cons (pe_lc (own := [("name", 2)]) (g := gName 2) (tt := tYes) rfl sc_filled.nd (pi_list (pv 1)) (blkOk_by (N := n_filled) (sc := defScope s_filled) (by decide +kernel))
        (fun _ _ _ _ _ => pg_name (i := 2) sc_filled.nd rfl (Or.inl rfl)) (fun _ _ _ _ _ => pts_nil) (fun _ _ _ _ _ => pe_dget (hu_of hr) (pv 0) (pv 2) (fun _ _ => rfl))) pa_nil))), ?_⟩
    refine ⟨_, rfl, l, rfl, ⟨_, hl⟩, fun D hD => lc_mp ws (walk_list (K := K) (a := l) (xs := ws.map V.str) |> fun z => by rw [List.length_map] at z; exact z) hD (fun z => .int (sizeOfD cs z : Nat)) (by omega) (fun H5 s5 => ?_) ?_ ?_⟩
    · rcases hl with (h | ⟨o, h⟩) | h
      · exact .inl (.inl (s5 _ _ h))
      · exact .inl (.inr ⟨o, s5 _ _ h⟩)
      · exact .inr h
    · rintro j z x H2 H3 hj s2 ⟨rfl, hx⟩ R hR
      rw [List.getElem?_map, hj] at hx
      obtain rfl : V.str z = x := Option.some.inj hx
      have hz := size_some (hin z (List.mem_of_getElem? hj))
      have gg := DGet.k (k := Sum.inr z) (s2 _ _ hd)
      rw [valV_cells, hz] at gg
      exact ⟨rfl, _, rfl, _, rfl, d, _, rfl, gg, hR _ (Same.refl _)⟩
    · intro H2 s2 hL
      refine ⟨D, ws.map fun z => ((sizeOfD cs z : Nat) : Int), rfl, SqL.of (by rw [hL, List.map_map]; rfl), ?_⟩
      have e : (ws.map fun z => ((sizeOfD cs z : Nat) : Int)).sum = ((total cs ws : Nat) : Int) := by
        unfold total
        clear hin hl few k hL
        induction ws with
        | nil => rfl
        | cons z r ih =>
          rw [List.map_cons, List.map_cons, List.sum_cons, List.sum_cons, ih]
          omega
      rw [e]
      exact k _ s2
end
end Vf

set_option maxRecDepth 100000
set_option maxHeartbeats 8000000
namespace Vf
open PySem PySem.Spec PyProof.Rows L2
section
variable {P : Program} {w : World} {K : PySem.W.Frag} {mg : Str → Option Value} {base : Heap}
def sp_is_line : Sp := fun vs H Q _ => ∃ (d l : Addr) (cs : List (Str × Nat)) (r : Nat) (ws : List Str), vs = [.ref d, .int (r : Int), .ref l] ∧ H d = some (.dK (cellKv cs)) ∧ H l = some (.lst (ws.map V.str)) ∧ ws ≠ [] ∧ ws.length ≤ 1000 ∧ (∀ z ∈ ws, z ∈ cs.map Prod.fst) ∧
  ∀ H', Same H H' → Q (.bl (decide (total cs ws ≤ r))) H'
theorem ok_is_line {f : Addr} {fd : FuncData} (F : Fun K "_is_line" "_is_line" s_is_line f fd) (T : Txt0 K mg) (GF : OkF P w K mg base CX0 "_filled" p_filled 1 (sp_filled K)) : FnOk P w K mg base CX0 2 f fd p_is_line sp_is_line := by
  refine F.ok sc_is_line (fun vs H Q E h => ?_) (fun cdv A outer s H vs Q E hr h => ?_)
  · obtain ⟨d, l, cs, r, ws, rfl, _⟩ := h
    rfl
  · obtain ⟨d, l, cs, r, ws, rfl, hd, hl, hne, few, hin, k⟩ := h
    refine ⟨_, pss_cons (ps_if (PW.pt (pw_or (pt_not (pt_val (pe_callB call_isi (by rfl) T.isinstance boot_isinstance (pa_cons (pv 2) (pa_cons (pe_bltn (by rfl) T.list (by decide +kernel) (v := .ty "list") rfl) pa_nil)))))
        (pw_or1 (pt_cmpR op_eq (pe_callB call_len_seq (by rfl) T.len PySem.boot_len (pa_cons (pv 2) pa_nil)) pe_int (nomark _))))) (pss_one ps_never) pss_nil)
      (pss_cons (ps_if (pt_not (pt_val (pe_callB (cr_all rfl) (by rfl) T.all (by decide +kernel) (pa_cons (pe_lc (own := [("name", 3)]) (g := gName 3) (tt := tYes) rfl sc_is_line.nd (pi_list (pv 2)) (blkOk_by (N := n_is_line) (sc := defScope s_is_line) (by decide +kernel))
          (fun _ _ _ _ _ => pg_name (i := 3) sc_is_line.nd rfl (Or.inl rfl)) (fun _ _ _ _ _ => pts_nil)
          (fun _ _ _ _ _ => pe_and (ta := tCB (rIsi K) (tCons (tVar 3) (tCons (tC (.ty "str")) tNil))) (pe_callB call_isi (by rfl) T.isinstance boot_isinstance (pa_cons (pv 3) (pa_cons (pe_bltn (by rfl) T.str boot_str (v := .ty "str") rfl) pa_nil))) (pe_one (pe_cmp (pc_din (hu_of hr) (pv 3) (pv 0)))))) pa_nil)))) (pss_one ps_never) pss_nil)
      (pss_one (ps_ret (pe_cmpR op_le (pe_fn GF hr rfl pass0 (pa_cons (pv 0) (pa_cons (pv 2) pa_nil))) (pv 1) (nomark _))))), ?_⟩
    refine ⟨_, rfl, _, _, _, _, true, rfl, .ty _, .base (.lst hl), kit_ty (by decide +kernel), _, rfl, iteF ⟨_, rfl, l, _, rfl, .inl (SqL.of hl), rfl, _, rfl, ?_⟩⟩
    have hlen := List.length_pos_iff.mpr hne
    rw [List.length_map, decide_eq_false (p := V.int ((ws.length : Nat) : Int) = V.int 0) (fun e => by have := V.int.inj e; omega)]
    refine iteF ⟨_, rfl, l, rfl, ⟨_, SqL.of hl⟩, fun D hD => lc_mp ws (walk_list (K := K) (a := l) (xs := ws.map V.str) |> fun z => by rw [List.length_map] at z; exact z) hD (fun _ => .bl true) (by omega) (fun H5 s5 => SqL.of (s5 _ _ hl)) ?_ ?_⟩
    · rintro j z x H2 H3 hj s2 ⟨rfl, hx⟩ R hR
      rw [List.getElem?_map, hj] at hx
      obtain rfl : V.str z = x := Option.some.inj hx
      have gg := DGet.k (k := Sum.inr z) (s2 _ _ hd)
      rw [valV_cells, size_some (hin z (List.mem_of_getElem? hj))] at gg
      exact ⟨rfl, _, rfl, _, _, _, _, true, rfl, .ty _, .base (.str _), kit_ty (by decide +kernel), true, rfl, iteT ⟨_, rfl, _, rfl, d, _, rfl, gg, hR _ (Same.refl _)⟩⟩
    · intro H2 s2 hL
      refine ⟨D, ws.map fun _ => true, rfl, SqL.of (by rw [hL, List.map_map]; rfl), _, rfl, ?_⟩
      have e : (ws.map fun _ => true).all id = true := by simp
      rw [e]
      refine iteF ⟨_, rfl, _, rfl, d, l, cs, ws, rfl, s2 _ _ hd, SqL.of (s2 _ _ hl), few, hin, fun H3 s3 => ⟨_, rfl, _, _, rfl, rfl, ?_⟩⟩
      have e2 : decide ((total cs ws : Int) ≤ (r : Int)) = decide (total cs ws ≤ r) := decide_eq_decide.mpr Int.ofNat_le
      show Q (.bl (decide ((total cs ws : Int) ≤ (r : Int)))) H3
      rw [e2]
      exact k H3 (s2.trans s3)
end
end Vf

set_option maxRecDepth 100000
set_option maxHeartbeats 8000000
namespace Vf
open PySem PySem.Spec PyProof.Rows L2
/-- behind a dict that was locked and is let go -/
theorem unlock_same {H H' : Hp} {d : Addr} {o : Obj} {u : HO} (hd : H d = some u) (s : Same (upd H d (.frz o u)) H') : Same H (upd H' d u) := fun b ob e => by
  by_cases h : b = d
  · rw [h, hd] at e
    rw [h, upd_same]
    exact e
  · rw [upd_ne h]
    exact s b ob (by rw [upd_ne h]; exact e)
theorem cell_get {cs : List (Str × Nat)} {i : Nat} (h : i < (cellKv cs).length) : ∃ p, cs[i]? = some p ∧ (cellKv cs)[i]? = some (Sum.inr p.1, V.int (p.2 : Int)) := by
  unfold cellKv at h ⊢
  rw [List.length_map] at h
  exact ⟨cs[i], List.getElem?_eq_getElem h, by rw [List.getElem?_map, List.getElem?_eq_getElem h]; rfl⟩
section
variable {P : Program} {w : World} {K : PySem.W.Frag} {mg : Str → Option Value} {base : Heap}
def sp_check_cells : Sp := fun vs H Q _ => ∃ (d : Addr) (cs : List (Str × Nat)), vs = [.ref d] ∧ H d = some (.dK (cellKv cs)) ∧ GoodCs cs ∧ ∀ H', Same H H' → Q .non H'
theorem ok_check_cells {f : Addr} {fd : FuncData} (F : Fun K "_check_cells" "_check_cells" s_check_cells f fd) (T : Txt0 K mg) (GN : OkF P w K mg base CX0 "is_name" p_is_name 1 sp_is_name) (GW : OkF P w K mg base CX0 "is_integer_within" p_is_integer_within 2 sp_within) :
    FnOk P w K mg base CX0 3 f fd p_check_cells sp_check_cells := by
  refine F.ok sc_check_cells (fun vs H Q E h => ?_) (fun cdv A outer s H vs Q E hr h => ?_)
  · obtain ⟨d, cs, rfl, _⟩ := h
    rfl
  · obtain ⟨d, cs, rfl, hd, g, k⟩ := h
    obtain ⟨t6, e6⟩ := T.cells
    obtain ⟨t8, e8⟩ := T.size
    refine ⟨_, pss_cons (ps_if (PW.pt (pw_or (pt_not (pt_val (pe_callB call_isi (by rfl) T.isinstance boot_isinstance (pa_cons (pv 0) (pa_cons (pe_bltn (by rfl) T.dict (by decide +kernel) (v := .ty "dict") rfl) pa_nil)))))
        (pw_or1 (pt_not (pt_chain op_le op_le pe_int (pe_callB call_lenD (by rfl) T.len PySem.boot_len (pa_cons (pv 0) pa_nil)) (pe_glob (v := .int 6) rfl e6 ⟨_, rfl⟩)))))) (pss_one ps_never) pss_nil)
      (pss_one (ps_lock (ps_for PassesOwn.never rfl (pi_items (pv 0)) (pg_tup (by rfl) (pgs_cons (pg_name (i := 1) sc_check_cells.nd rfl (Or.inl rfl)) (pgs_cons (pg_name (i := 2) sc_check_cells.nd rfl (Or.inl rfl)) pgs_nil)))
        (pss_one (ps_if (PW.pt (pw_or (pt_not (pt_val (pe_fn GN (hr.mono (by decide)) rfl pass0 (pa_cons (pv 1) pa_nil))))
          (pw_or1 (pt_not (pt_val (pe_fn GW hr rfl pass0 (pa_cons (pv 2) (pa_cons pe_int (pa_cons (pe_glob (v := .int 8) rfl e8 ⟨_, rfl⟩) pa_nil))))))))) (pss_one ps_never) pss_nil))))), ?_⟩
    have few := g.few
    have some1 := List.length_pos_iff.mpr g.some
    have ln : (cellKv cs).length = cs.length := List.length_map ..
    refine ⟨_, rfl, _, _, _, _, true, rfl, .ty _, .base (.dK hd), kit_ty (by decide +kernel), _, rfl, iteF ?_⟩
    refine ⟨_, rfl, d, _, rfl, hd, 1, ((cellKv cs).length : Int), rfl, rfl, decide ((1 : Int) ≤ ((cellKv cs).length : Int)), rfl, ?_⟩
    rw [decide_eq_true (p := (1 : Int) ≤ ((cellKv cs).length : Int)) (by omega)]
    refine iteT ⟨_, _, rfl, rfl, _, rfl, ?_⟩
    rw [decide_eq_true (p := ((cellKv cs).length : Int) ≤ 6) (by omega)]
    refine iteF ⟨d, _, hd, True.intro, fun o => ?_⟩
    have hz : (upd H d (.frz o (.dK (cellKv cs)))) d = some (.frz o (.dK (cellKv cs))) := upd_same
    refine ⟨_, rfl, d, o, _, rfl, hz, for_it (walk_items (d := d) (o := o) (kvs := cellKv cs)) (fun i σ H' => ∃ v1 v2, σ = [some (.ref d), v1, v2] ∧ Same (upd H d (.frz o (.dK (cellKv cs)))) H') ⟨_, _, rfl, Same.refl _⟩ (fun i σ H' _ ⟨_, _, _, s⟩ => s _ _ hz) ?_ ?_⟩
    · rintro i x σ H1 H2 hi ⟨v1, v2, rfl, s1⟩ ⟨T1, x1, x2, rfl, hT1, rfl, hx1, hx2⟩
      obtain ⟨p, hp, hkv⟩ := cell_get hi
      replace hx1 : ((cellKv cs)[i]?.map fun kv => kV kv.1) = some x1 := hx1
      replace hx2 : ((cellKv cs)[i]?.map Prod.snd) = some x2 := hx2
      rw [hkv] at hx1 hx2
      obtain rfl : V.str p.1 = x1 := Option.some.inj hx1
      obtain rfl : V.int (p.2 : Int) = x2 := Option.some.inj hx2
      have hm := List.mem_of_getElem? hp
      have nm := g.name p hm
      have sz := g.size p hm
      have sT := same_new (o := .tup [.str p.1, .int (p.2 : Int)]) hT1
      refine ⟨T1, _, rfl, SqT.of upd_same, rfl, _, _, rfl, _, _, rfl, rfl, _, rfl, p.1, rfl, (by have := (name_len nm).2; omega), fun H3 s3 => ⟨_, rfl, ?_⟩⟩
      rw [nm]
      refine iteF ⟨_, rfl, (p.2 : Int), 1, 8, rfl, _, rfl, ?_⟩
      rw [decide_eq_true (p := (1 : Int) ≤ (p.2 : Int)) (by omega), decide_eq_true (p := (p.2 : Int) ≤ 8) (by omega)]
      exact iteF ⟨_, _, rfl, (s1.trans sT).trans s3⟩
    · rintro σ H1 ⟨v1, v2, rfl, s1⟩
      exact ⟨s1 _ _ hz, k _ (unlock_same hd s1)⟩
end
end Vf

set_option maxRecDepth 100000
set_option maxHeartbeats 4000000
namespace Vf
open PySem PySem.Spec PyProof.Rows L2
def rSortedD (K : PySem.W.Frag) : List V → Hp → VK → Prop := fun xs H Q => ∃ (a : Addr) (bs : List (V × PyData)), xs = [.ref a] ∧ SqL K H a (bs.map Prod.fst) ∧ bs.length ≤ 1000000 ∧ (∀ b ∈ bs, Dp K H b.1 b.2 ∧ b.2.depth ≤ 64) ∧
  PySem.W.AllAlike (bs.map Prod.snd) ∧ PySem.W.Sortable (bs.map Prod.snd) ∧ ∀ p, H p = none → Q (.ref p) (upd H p (.lst ((bs.mergeSort (PySem.W.dataLe false Prod.snd)).map Prod.fst)))
theorem each_of : ∀ {bs : List (V × PyData)} {its : List Value}, Vals (bs.map Prod.fst) its → PySem.W.EachIs (fun v (b : V × PyData) => RelV b.1 v) its bs
  | [], _, h => by
    cases h
    exact .nil
  | b :: bs, _, h => by
    cases h with
    | cons h1 h2 => exact .cons h1 (each_of h2)
theorem vals_each : ∀ {out : List Value} {bs : List (V × PyData)}, PySem.W.EachIs (fun v (b : V × PyData) => RelV b.1 v) out bs → Vals (bs.map Prod.fst) out
  | _, _, .nil => .nil
  | _, _, .cons h1 h2 => .cons h1 (vals_each h2)
theorem cr_sortedD {X : Cx} {k : Nat} (hr : Room k X.A) : CallR X (.builtin "sorted") (rSortedD X.K) := by
  intro pins s σ H vs us Q I r h
  obtain ⟨a, bs, rfl, hs, few, hd, al, so, q⟩ := h
  obtain ⟨its, rv, hl, _⟩ := I.list hs
  rw [Vals.ref1 r]
  have un := hr.un
  have reads : ∀ {its : List Value} {bs : List (V × PyData)}, (∀ b ∈ bs, Dp X.K H b.1 b.2 ∧ b.2.depth ≤ 64) → PySem.W.EachIs (fun v (b : V × PyData) => RelV b.1 v) its bs → PySem.W.EachIs (fun v (b : V × PyData) => ∃ as, Reads s.heap v b.2 as) its bs := by
    intro its bs hd e
    induction e with
    | nil => exact .nil
    | cons h1 _ ih => exact .cons (Dp.reads I _ _ _ (hd _ List.mem_cons_self).1 h1) (ih fun b hb => hd b (List.mem_cons_of_mem _ hb))
  have e := each_of rv
  refine PySem.W.sorted_data (enc := Prod.snd) hl.isList e (reads hd e) al so (by rw [sizeLine_eq]; omega) (fun b hb => by have := (hd b hb).2; omega) fun out hlen eo => ?_
  obtain ⟨ep, here⟩ := PyProof.Rows.sortedAll_at s.heap its out.toArray
  have short : ((bs.mergeSort (PySem.W.dataLe false Prod.snd)).map Prod.fst).length ≤ sizeLine := by
    rw [List.length_map, List.length_mergeSort, sizeLine_eq]
    omega
  have back := vals_each eo
  refine ⟨.ref _, upd H (s.heap.objs.size + 1) (.lst ((bs.mergeSort (PySem.W.dataLe false Prod.snd)).map Prod.fst)), I.laid (t' := s.toks) (fun _ _ => PyProof.Rows.sortedAll_old) (Nat.le_succ _) ⟨short, out, ep, back, ?_⟩, rfl, q _ (I.hok.fresh (Nat.le_succ _))⟩
  simpa using here
end Vf

set_option maxRecDepth 100000
set_option maxHeartbeats 4000000
namespace Vf
open PySem PySem.Spec PyProof.Rows L2
def leS (a b : Str) : Bool := !ltCps b.cps.toList a.cps.toList
theorem leS_iff {a b : Str} : leS a b = true ↔ ¬ b.cps.toList < a.cps.toList := by
  unfold leS
  rw [ltCps_eq]
  simp
theorem str_eq {a b : Str} (h : a.cps.toList = b.cps.toList) : a = b := by
  cases a with | mk x => cases b with | mk y =>
    have : x = y := Array.toList_inj.mp h
    rw [this]
theorem leS_trans (a b c : Str) (h1 : leS a b = true) (h2 : leS b c = true) : leS a c = true := by
  rw [leS_iff] at h1 h2 ⊢
  exact List.le_trans (l₁ := a.cps.toList) h1 h2
theorem leS_total (a b : Str) : (leS a b || leS b a) = true := by
  rcases List.le_total (l₁ := a.cps.toList) (l₂ := b.cps.toList) with h | h
  · rw [leS_iff.mpr h]; rfl
  · rw [leS_iff.mpr h, Bool.or_true]
theorem leS_anti {a b : Str} (h1 : leS a b = true) (h2 : leS b a = true) : a = b := by
  rw [leS_iff] at h1 h2
  exact str_eq (List.le_antisymm h1 h2)
def srt (l : List Str) : List Str := l.mergeSort leS
theorem srt_pw (l : List Str) : (srt l).Pairwise (fun a b => leS a b = true) := List.pairwise_mergeSort leS_trans leS_total l
theorem srt_perm (l : List Str) : (srt l).Perm l := List.mergeSort_perm l leS
theorem srt_uniq {a b : List Str} (ha : a.Pairwise (fun a b => leS a b = true)) (hb : b.Pairwise (fun a b => leS a b = true)) (p : a.Perm b) : a = b :=
  List.Perm.eq_of_pairwise (le := fun a b => leS a b = true) (fun _ _ _ _ h1 h2 => leS_anti h1 h2) ha hb p
theorem pw_rising : ∀ (p : Str) (l : List Str), risingS p l = true → (p :: l).Pairwise (fun a b => leS a b = true)
  | p, [], _ => List.pairwise_cons.mpr ⟨(fun _ h => nomatch h), List.Pairwise.nil⟩
  | p, x :: r, h => by
    have h' : (!ltCps x.cps.toList p.cps.toList && risingS x r) = true := h
    rw [Bool.and_eq_true] at h'
    have ih := pw_rising x r h'.2
    refine List.pairwise_cons.mpr ⟨fun y hy => ?_, ih⟩
    rcases List.mem_cons.mp hy with rfl | hy
    · exact h'.1
    · exact leS_trans _ _ _ h'.1 ((List.pairwise_cons.mp ih).1 y hy)
theorem pw_sortedS {l : List Str} (h : sortedS l = true) : l.Pairwise (fun a b => leS a b = true) := by
  cases l with
  | nil => exact .nil
  | cons x r => exact pw_rising x r h
theorem srt_of {ys xs : List Str} (p : ys.Perm xs) (h : sortedS ys = true) : ys = srt xs := srt_uniq (pw_sortedS h) (srt_pw xs) (p.trans (srt_perm xs).symm)
theorem srt_same {a b : List Str} (p : a.Perm b) : srt a = srt b := srt_uniq (srt_pw a) (srt_pw b) ((srt_perm a).trans (p.trans (srt_perm b).symm))
theorem srt_srt (a : List Str) : srt (srt a) = srt a := srt_same (srt_perm a)
theorem srt_one (z : Str) : srt [z] = [z] := List.mergeSort_singleton z
theorem dp_strs {K : PySem.W.Frag} {H : Hp} : ∀ ws : List Str, DpAll K H (ws.map V.str) (ws.map PyData.str)
  | [] => .nil
  | z :: ws => .cons (.str z) (dp_strs ws)
theorem plain_strs : ∀ {ws : List Str}, (∀ z ∈ ws, PyData.strOk z = true) → plainAll (ws.map PyData.str) = true
  | [], _ => rfl
  | z :: ws, h => by
    simp only [List.map_cons, plainAll, plainD, Bool.and_eq_true]
    exact ⟨h z List.mem_cons_self, plain_strs fun y hy => h y (List.mem_cons_of_mem _ hy)⟩
theorem depth_strs : ∀ ws : List Str, PyData.depthAll (ws.map PyData.str) = 0
  | [] => rfl
  | z :: ws => by simp only [List.map_cons, PyData.depthAll, PyData.depth, depth_strs ws, Nat.max_self]
theorem shaped_strs {ws : List Str} (h : ∀ z ∈ ws, PyData.strOk z = true) : SeqAt.shaped (.list (ws.map PyData.str)) = true :=
  shaped_of (by simp only [plainD, plain_strs h]) (by simp only [PyData.depth, depth_strs]; decide)
theorem eqv_self {d : PyData} (h : plainD d = true) : PyData.eqv d d = true := (eqv_iff d d h h).mpr rfl
theorem ok_str {z : Str} (h2 : ∀ c ∈ TL.tl z, c < 1114112) : PyData.strOk z = true := by
  unfold PyData.strOk
  rw [← Array.all_toList, List.all_eq_true]
  intro c hc
  exact decide_eq_true (h2 c hc)
theorem ok_name {z : Str} (h : isNameT z = true) : PyData.strOk z = true := ok_str fun c hc => by
  have := name_signs h c hc
  omega
end Vf

set_option maxRecDepth 100000
set_option maxHeartbeats 8000000
namespace Vf
open PySem PySem.Spec PyProof.Rows L2
theorem cell_keys (cs : List (Str × Nat)) : (cellKv cs).map (·.1) = (cs.map Prod.fst).map Sum.inr := by
  unfold cellKv
  rw [List.map_map, List.map_map]
  rfl
theorem flat_len {α : Type} {ps : List (α × List Str)} (h : ∀ p ∈ ps, p.2 ≠ []) : ps.length ≤ (ps.flatMap Prod.snd).length := by
  induction ps with
  | nil => simp
  | cons p r ih =>
    have h1 := List.length_pos_iff.mpr (h p List.mem_cons_self)
    have h2 := ih fun q hq => h q (List.mem_cons_of_mem _ hq)
    rw [List.flatMap_cons, List.length_append, List.length_cons]
    omega
theorem flat_part {α : Type} {ps : List (α × List Str)} {p : α × List Str} (h : p ∈ ps) : p.2.length ≤ (ps.flatMap Prod.snd).length := by
  induction ps with
  | nil => cases h
  | cons q r ih =>
    rw [List.flatMap_cons, List.length_append]
    rcases List.mem_cons.mp h with rfl | h
    · omega
    · have := ih h
      omega
section
variable {P : Program} {w : World} {K : PySem.W.Frag} {mg : Str → Option Value} {base : Heap}
/-- lines as they are handed in -/
structure InLines (H : Hp) (l : Addr) (cs : List (Str × Nat)) (r : Nat) (ps : List (Addr × List Str)) : Prop where
  at_ : H l = some (.lst (ps.map fun p => V.ref p.1))
  each : ∀ p ∈ ps, H p.1 = some (.lst (p.2.map V.str)) ∧ p.2 ≠ [] ∧ total cs p.2 ≤ r
  perm : (ps.flatMap Prod.snd).Perm (cs.map Prod.fst)
theorem InLines.same {H H' : Hp} {l : Addr} {cs : List (Str × Nat)} {r : Nat} {ps : List (Addr × List Str)} (h : InLines H l cs r ps) (s : Same H H') : InLines H' l cs r ps :=
  ⟨s _ _ h.at_, fun p hp => ⟨s _ _ (h.each p hp).1, (h.each p hp).2⟩, h.perm⟩
theorem InLines.len {H : Hp} {l : Addr} {cs : List (Str × Nat)} {r : Nat} {ps : List (Addr × List Str)} (h : InLines H l cs r ps) (g : GoodCs cs) : (ps.flatMap Prod.snd).length ≤ 6 := by
  have := h.perm.length_eq
  rw [List.length_map] at this
  have := g.few
  omega
def sp_are_lines : Sp := fun vs H Q _ => ∃ (d l : Addr) (cs : List (Str × Nat)) (r : Nat) (ps : List (Addr × List Str)), vs = [.ref d, .int (r : Int), .ref l] ∧ H d = some (.dK (cellKv cs)) ∧ GoodCs cs ∧ InLines H l cs r ps ∧ ∀ H', Same H H' → Q (.bl true) H'
theorem ok_are_lines {f : Addr} {fd : FuncData} (F : Fun K "_are_lines" "_are_lines" s_are_lines f fd) (T : Txt0 K mg) (GL : OkF P w K mg base CX0 "_is_line" p_is_line 2 sp_is_line) : FnOk P w K mg base CX0 3 f fd p_are_lines sp_are_lines := by
  refine F.ok sc_are_lines (fun vs H Q E h => ?_) (fun cdv A outer s H vs Q E hr h => ?_)
  · obtain ⟨d, l, cs, r, ps, rfl, _⟩ := h
    rfl
  · obtain ⟨d, l, cs, r, ps, rfl, hd, g, il, k⟩ := h
    refine ⟨_, pss_cons (ps_if (PW.pt (pw_or (pt_not (pt_val (pe_callB call_isi (by rfl) T.isinstance boot_isinstance (pa_cons (pv 2) (pa_cons (pe_bltn (by rfl) T.list (by decide +kernel) (v := .ty "list") rfl) pa_nil)))))
        (pw_or1 (pt_not (pt_val (pe_callB (cr_all rfl) (by rfl) T.all (by decide +kernel) (pa_cons (pe_lc (own := [("line", 3)]) (g := gName 3) (tt := tYes) rfl sc_are_lines.nd (pi_list (pv 2)) (blkOk_by (N := n_are_lines) (sc := defScope s_are_lines) (by decide +kernel))
          (fun _ _ _ _ _ => pg_name (i := 3) sc_are_lines.nd rfl (Or.inl rfl)) (fun _ _ _ _ _ => pts_nil)
          (fun _ _ _ _ _ => pe_fn GL hr rfl pass0 (pa_cons (pv 0) (pa_cons (pv 1) (pa_cons (pv 3) pa_nil))))) pa_nil))))))) (pss_one (ps_ret pe_bl)) pss_nil)
      (pss_one (ps_ret (pe_cmpR (op_eqD hr.units) (pe_callB cr_sortedS (by rfl) T.sorted (by decide +kernel) (pa_cons
          (pe_lc2 (own := [("line", 3), ("name", 4)]) (vs1 := [4]) (wi1 := iList K (tVar 3)) (g := gName 3) (g1 := gName 4) (tt := tYes) (tt1 := tYes) rfl sc_are_lines.nd (pi_list (pv 2)) (blkOk_by (N := n_are_lines) (sc := defScope s_are_lines) (by decide +kernel)) (by decide)
            (fun _ _ _ _ _ => pg_name (i := 3) sc_are_lines.nd rfl (Or.inl rfl)) (fun _ _ _ _ _ => pts_nil) (fun _ _ _ _ _ => pi_list (pv 3))
            (fun _ _ _ _ _ => pg_name (i := 4) sc_are_lines.nd rfl (Or.inl rfl)) (fun _ _ _ _ _ => pts_nil) (fun _ _ _ _ _ => pv 4)) pa_nil))
          (pe_callB (call_sortedD rfl) (by rfl) T.sorted (by decide +kernel) (pa_cons (pv 0) pa_nil)) (nomark _)))), ?_⟩
    have l6 := il.len g
    have lp := flat_len fun p hp => (il.each p hp).2.1
    have each : ∀ p ∈ ps, p.2.length ≤ 6 := fun p hp => Nat.le_trans (flat_part hp) l6
    refine ⟨_, rfl, _, _, _, _, true, rfl, .ty _, .base (.lst il.at_), kit_ty (by decide +kernel), _, rfl, iteF ?_⟩
    have wl : ∀ {a : Addr}, Walk (Itl K a) ps.length (fun H => SqL K H a (ps.map fun p => V.ref p.1)) (YAt (ps.map fun p => V.ref p.1)) := fun {a} => (walk_list (K := K) (a := a) (xs := ps.map fun p => V.ref p.1) |> fun z => by rw [List.length_map] at z; exact z)
    refine ⟨_, rfl, l, rfl, ⟨_, SqL.of il.at_⟩, fun D hD => lc_mp ps wl hD (fun _ => .bl true) (by omega) (fun H5 s5 => SqL.of (s5 _ _ il.at_)) ?_ ?_⟩
    · rintro j p x H2 H3 hj s2 ⟨rfl, hx⟩ R hR
      rw [List.getElem?_map, hj] at hx
      obtain rfl : V.ref p.1 = x := Option.some.inj hx
      have hp := List.mem_of_getElem? hj
      obtain ⟨h1, h2, h3⟩ := il.each p hp
      refine ⟨rfl, _, rfl, _, rfl, _, rfl, d, p.1, cs, r, p.2, rfl, s2 _ _ hd, s2 _ _ h1, h2, by have := each p hp; omega, fun z hz => ?_, fun H4 s4 => ?_⟩
      · exact il.perm.mem_iff.mp (List.mem_flatMap.mpr ⟨p, hp, hz⟩)
      · rw [decide_eq_true h3]
        exact hR H4 s4
    · intro H2 s2 hL
      refine ⟨D, ps.map fun _ => true, rfl, SqL.of (by rw [hL, List.map_map]; rfl), _, rfl, ?_⟩
      have e : (ps.map fun _ => true).all id = true := by simp
      rw [e]
      refine iteF ?_
      have il2 := il.same s2
      refine ⟨_, rfl, l, rfl, ⟨_, SqL.of il2.at_⟩, fun D2 hD2 => ⟨fun i m H' => m = ps.length - i ∧ i ≤ ps.length ∧ Same H2 H' ∧ H' D2 = some (.lst (((ps.take i).flatMap Prod.snd).map V.str)), ⟨ps.length, by simp, Nat.zero_le _, same_new hD2, by rw [upd_same]; rfl⟩, ?_⟩⟩
      rintro i m H3 ⟨rfl, hi, s3, e3⟩
      have sq : SqL K H3 l (ps.map fun p => V.ref p.1) := SqL.of (s3 _ _ il2.at_)
      by_cases hlt : i < ps.length
      · have hj : ps[i]? = some ps[i] := List.getElem?_eq_getElem hlt
        generalize ps[i] = p at hj
        have hp := List.mem_of_getElem? hj
        have tk : (ps.take (i + 1)).flatMap Prod.snd = (ps.take i).flatMap Prod.snd ++ p.2 := by
          rw [List.take_add_one, hj, List.flatMap_append]
          simp
        have tl6 : ((ps.take i).flatMap Prod.snd ++ p.2).length ≤ 6 := by
          rw [← tk]
          refine Nat.le_trans ?_ l6
          conv => rhs; rw [← List.take_append_drop (i + 1) ps, List.flatMap_append, List.length_append]
          omega
        refine .inr ⟨wl.goes i H3 hlt sq, fun H' => Same H2 H' ∧ H' D2 = some (.lst (((ps.take (i + 1)).flatMap Prod.snd).map V.str)), fun H' q => ⟨ps.length - (i + 1), by omega, rfl, hlt, q⟩, fun x H4 y => ?_⟩
        obtain ⟨rfl, hx⟩ := wl.yields i H3 x H4 hlt sq y
        rw [List.getElem?_map, hj] at hx
        obtain rfl : V.ref p.1 = x := Option.some.inj hx
        obtain ⟨h1, h2, h3⟩ := il2.each p hp
        have wp : Walk (Itl K p.1) p.2.length (fun H => SqL K H p.1 (p.2.map V.str)) (YAt (p.2.map V.str)) := (walk_list (K := K) (a := p.1) (xs := p.2.map V.str) |> fun z => by rw [List.length_map] at z; exact z)
        refine ⟨rfl, _, rfl, p.1, rfl, ⟨_, SqL.of (s3 _ _ h1)⟩, fun j n H' => n = p.2.length - j ∧ j ≤ p.2.length ∧ Same H2 H' ∧ H' D2 = some (.lst (((ps.take i).flatMap Prod.snd ++ p.2.take j).map V.str)), ⟨p.2.length, by simp, Nat.zero_le _, s3, by rw [e3]; simp⟩, ?_⟩
        rintro j n H5 ⟨rfl, hjl, s5, e5⟩
        have sq5 : SqL K H5 p.1 (p.2.map V.str) := SqL.of (s5 _ _ h1)
        by_cases hl2 : j < p.2.length
        · have hz : p.2[j]? = some p.2[j] := List.getElem?_eq_getElem hl2
          generalize p.2[j] = z at hz
          refine .inr ⟨wp.goes j H5 hl2 sq5, fun H' => Same H2 H' ∧ H' D2 = some (.lst (((ps.take i).flatMap Prod.snd ++ p.2.take (j + 1)).map V.str)), fun H' q => ⟨p.2.length - (j + 1), by omega, rfl, hl2, q⟩, fun x H6 y => ?_⟩
          obtain ⟨rfl, hx⟩ := wp.yields j H5 x H6 hl2 sq5 y
          rw [List.getElem?_map, hz] at hx
          obtain rfl : V.str z = x := Option.some.inj hx
          refine ⟨rfl, _, rfl, _, e5, ?_, same_upd s5 hD2, ?_⟩
          · rw [List.length_map, List.length_append, List.length_take, sizeLine_eq]
            rw [List.length_append] at tl6
            omega
          · rw [upd_same, List.take_add_one, hz, ← List.append_assoc, List.map_append (l₁ := _ ++ _)]
            rfl
        · have e : j = p.2.length := by omega
          subst e
          refine .inl ⟨wp.stops H5 sq5, s5, ?_⟩
          rw [e5, tk, List.take_length]
      · have e : i = ps.length := by omega
        subst e
        rw [List.take_length] at e3
        refine .inl ⟨wl.stops H3 sq, D2, ps.flatMap Prod.snd, rfl, SqL.of e3, by omega, fun ys p4 hy1 hy2 hp4 => ?_⟩
        have s4 : Same H (upd H3 p4 (.lst (ys.map V.str))) := (s2.trans s3).trans (same_new hp4)
        have few := g.few
        refine ⟨_, rfl, d, cellKv cs, cs.map Prod.fst, rfl, .inl (s4 _ _ hd), cell_keys cs, by rw [List.length_map]; omega, fun zs p5 hz1 hz2 hp5 => ?_⟩
        have same : ys = zs := (srt_of hy1 hy2).trans ((srt_same il.perm).trans (srt_of hz1 hz2).symm)
        subst same
        have ok : ∀ z ∈ ys, PyData.strOk z = true := fun z hz => by
          obtain ⟨q, hq, rfl⟩ := List.mem_map.mp (hz1.mem_iff.mp hz)
          exact ok_name (g.name q hq)
        refine ⟨.list (ys.map PyData.str), .list (ys.map PyData.str), .lst (SqL.of (same_new hp5 _ _ upd_same)) (dp_strs _), .lst (SqL.of upd_same) (dp_strs _), shaped_strs ok, shaped_strs ok, ?_⟩
        rw [eqv_self (by simp only [plainD, plain_strs ok])]
        exact k _ (s4.trans (same_new hp5))
end
end Vf

set_option maxRecDepth 100000
set_option maxHeartbeats 4000000
namespace Vf
open PySem PySem.Spec PyProof.Rows L2
def But (p : Addr) (H1 H : Hp) : Prop := ∀ b o, b ≠ p → H1 b = some o → H b = some o
theorem But.refl (p : Addr) (H : Hp) : But p H H := fun _ _ _ e => e
theorem But.then {p : Addr} {H1 H2 H3 : Hp} (a : But p H1 H2) (s : Same H2 H3) : But p H1 H3 := fun b o hb e => s b o (a b o hb e)
theorem But.trans {p : Addr} {H1 H2 H3 : Hp} (a : But p H1 H2) (s : But p H2 H3) : But p H1 H3 := fun b o hb e => s b o hb (a b o hb e)
theorem But.put {p : Addr} {H1 H2 : Hp} {o : HO} (a : But p H1 H2) : But p H1 (upd H2 p o) := fun b u hb e => by rw [upd_ne hb]; exact a b u hb e
theorem Same.but {p : Addr} {H1 H2 : Hp} (s : Same H1 H2) : But p H1 H2 := fun b o _ e => s b o e
theorem But.same {p : Addr} {H0 H1 H2 : Hp} (a : But p H1 H2) (s : Same H0 H1) (h : H0 p = none) : Same H0 H2 := fun b o e => a b o (ne_of_none e h) (s b o e)
section
variable {J : It} {n : Nat} {G : Hp → Prop} {Y : Nat → Hp → V → Hp → Prop}
/-- [.. for .. in ..], each value told by Pr -/
theorem lc_ad {α : Type} (l : List α) (w : Walk J l.length G Y) {g : TG} {te : TE} {vs : List Nat} {σ : L2.St} {H1 : Hp} {D : Addr} {Qd : Hp → Prop} (hD : H1 D = none) (Pr : α → V → Hp → Prop) (hn : l.length < 1000000) (hG : ∀ H, Same H1 H → G H)
    (hs : ∀ i a x H H', l[i]? = some a → Same H1 H → (∃ acc, H D = some (.lst acc)) → Y i H x H' → ∀ R : V → Hp → Prop, (∀ v H4, Same H H4 → (∀ H5, But D H4 H5 → Pr a v H5) → R v H4) →
      g x (wipe σ vs) H' fun σ2 H2 => wipe σ2 vs = wipe σ vs ∧ te σ2 H2 R)
    (hd : ∀ H (xs : List V), Same H1 H → H D = some (.lst xs) → xs.length = l.length → (∀ (i : Nat) (a : α) (v : V), l[i]? = some a → xs[i]? = some v → Pr a v H) → Qd H) :
    ∃ W : Nat → Nat → Hp → Prop, (∃ m, W 0 m (upd H1 D (.lst []))) ∧ ∀ i m H, W i m H →
      (J.stop i H ∧ Qd H) ∨ (J.go i H ∧ ∃ Nx : Hp → Prop, (∀ H', Nx H' → ∃ m', m' < m ∧ W (i + 1) m' H') ∧ ∀ x H', J.yld i H x H' → g x (wipe σ vs) H' fun σ2 H2 => wipe σ2 vs = wipe σ vs ∧ tYes σ2 H2 fun b H3 =>
        if b = true then te σ2 H3 fun y H4 => ∃ acc, H4 D = some (.lst acc) ∧ acc.length < sizeLine ∧ Nx (upd H4 D (.lst (acc ++ [y]))) else Nx H3) := by
  refine ⟨fun i m H => m = l.length - i ∧ i ≤ l.length ∧ Same H1 H ∧ ∃ xs : List V, H D = some (.lst xs) ∧ xs.length = i ∧ ∀ (j : Nat) (a : α) (v : V), l[j]? = some a → xs[j]? = some v → ∀ H5, But D H H5 → Pr a v H5, ⟨l.length, by simp, Nat.zero_le _, same_new hD, [], upd_same, rfl, fun j a v _ h => by simp at h⟩, ?_⟩
  rintro i m H ⟨rfl, hi, s, xs, hH, hxs, hp⟩
  by_cases hlt : i < l.length
  · have ha : l[i]? = some l[i] := List.getElem?_eq_getElem hlt
    refine .inr ⟨w.goes i H hlt (hG H s), fun H' => Same H1 H' ∧ ∃ xs : List V, H' D = some (.lst xs) ∧ xs.length = i + 1 ∧ ∀ (j : Nat) (a : α) (v : V), l[j]? = some a → xs[j]? = some v → ∀ H5, But D H' H5 → Pr a v H5, fun H' p => ⟨l.length - (i + 1), by omega, rfl, hlt, p⟩, fun x H' y => ?_⟩
    have q := hs i _ x H H' ha s ⟨xs, hH⟩ (w.yields i H x H' hlt (hG H s) y) (fun y H4 => ∃ acc, H4 D = some (.lst acc) ∧ acc.length < sizeLine ∧ Same H1 (upd H4 D (.lst (acc ++ [y]))) ∧ ∃ xs : List V, (upd H4 D (.lst (acc ++ [y]))) D = some (.lst xs) ∧ xs.length = i + 1 ∧ ∀ (j : Nat) (a : α) (v : V), l[j]? = some a → xs[j]? = some v → ∀ H5, But D (upd H4 D (.lst (acc ++ [y]))) H5 → Pr a v H5) ?_
    · exact q
    intro v H4 s4 hv
    have e4 := s4 D _ hH
    have b4 : But D H4 (upd H4 D (.lst (xs ++ [v]))) := (But.refl D H4).put
    refine ⟨xs, e4, by rw [sizeLine_eq]; omega, same_upd (s.trans s4) hD, xs ++ [v], upd_same, by rw [List.length_append, hxs]; rfl, fun j a u hj hu H5 b5 => ?_⟩
    by_cases hj' : j < xs.length
    · rw [List.getElem?_append_left hj'] at hu
      exact hp j a u hj hu H5 ((Same.but s4).trans (b4.trans b5))
    · have ej : j = xs.length := by
        have := (List.getElem?_eq_some_iff.mp hu).1
        rw [List.length_append, List.length_singleton] at this
        omega
      subst ej
      rw [List.getElem?_append_right (Nat.le_refl _), Nat.sub_self] at hu
      obtain rfl : v = u := by simpa using hu
      rw [hxs, ha] at hj
      obtain rfl : l[i] = a := Option.some.inj hj
      exact hv H5 (b4.trans b5)
  · have e : i = l.length := by omega
    subst e
    exact .inl ⟨w.stops H (hG H s), hd H xs s hH hxs fun j a v hj hv => hp j a v hj hv H (But.refl D H)⟩
end
def lnD (ws : List Str) : PyData := .tuple (ws.map PyData.str)
def leL (a b : List Str) : Bool := PySem.W.dataLe false lnD a b
def sortL (ls : List (List Str)) : List (List Str) := ls.mergeSort leL
theorem sortL_perm (ls : List (List Str)) : (sortL ls).Perm ls := List.mergeSort_perm ls leL
/-- a tuple of tuples of texts -/
def LinesAt (H : Hp) (t : Addr) (qs : List (Addr × List Str)) : Prop := H t = some (.tup (qs.map fun q => V.ref q.1)) ∧ ∀ q ∈ qs, H q.1 = some (.tup (q.2.map V.str))
theorem LinesAt.same {H H' : Hp} {t : Addr} {qs : List (Addr × List Str)} (h : LinesAt H t qs) (s : Same H H') : LinesAt H' t qs := ⟨s _ _ h.1, fun q hq => s _ _ (h.2 q hq)⟩
theorem alikeAll_strs : ∀ xs ys : List Str, PySem.W.alikeAll (xs.map PyData.str) (ys.map PyData.str) = true
  | [], _ => by rw [List.map_nil, PySem.W.alikeAll]
  | _ :: _, [] => by rw [List.map_cons, List.map_nil, PySem.W.alikeAll]
  | x :: xs, y :: ys => by
    rw [List.map_cons, List.map_cons, PySem.W.alikeAll, alikeAll_strs xs ys, PySem.W.alike]
    rfl
theorem alike_ln (xs ys : List Str) : PySem.W.alike (lnD xs) (lnD ys) = true := by
  unfold lnD
  rw [PySem.W.alike]
  exact alikeAll_strs xs ys
theorem qs_of {H : Hp} : ∀ (ls : List (List Str)) (xs : List V), xs.length = ls.length → (∀ (i : Nat) (ws : List Str) (v : V), ls[i]? = some ws → xs[i]? = some v → ∃ t, v = .ref t ∧ H t = some (.tup (ws.map V.str))) →
    ∃ qs : List (Addr × List Str), xs = qs.map (fun q => V.ref q.1) ∧ qs.map Prod.snd = ls ∧ ∀ q ∈ qs, H q.1 = some (.tup (q.2.map V.str))
  | [], [], _, _ => ⟨[], rfl, rfl, fun _ h => nomatch h⟩
  | [], _ :: _, h, _ => by simp at h
  | _ :: _, [], h, _ => by simp at h
  | ws :: ls, v :: xs, h, hp => by
    obtain ⟨t, rfl, ht⟩ := hp 0 ws v rfl rfl
    obtain ⟨qs, e1, e2, e3⟩ := qs_of ls xs (by simpa using h) fun i a u h1 h2 => hp (i + 1) a u (by simpa using h1) (by simpa using h2)
    refine ⟨(t, ws) :: qs, by rw [e1]; rfl, by rw [← e2]; rfl, fun q hq => ?_⟩
    rcases List.mem_cons.mp hq with rfl | hq
    · exact ht
    · exact e3 q hq
/-- a list of tuples of texts, sorted -/
theorem lines_sorted {K : PySem.W.Frag} {H : Hp} {Q : VK} {D : Addr} {qs : List (Addr × List Str)} (hD : H D = some (.lst (qs.map fun q => V.ref q.1))) (ht : ∀ q ∈ qs, H q.1 = some (.tup (q.2.map V.str))) (few : qs.length ≤ 1000) (ne : ∀ q ∈ qs, q.2 ≠ [])
    (k : ∀ (p : Addr) (rs : List (Addr × List Str)), H p = none → rs.map Prod.snd = sortL (qs.map Prod.snd) → (∀ q ∈ rs, q ∈ qs) → Q (.ref p) (upd H p (.lst (rs.map fun q => V.ref q.1)))) : rSortedD K [.ref D] H Q := by
  refine ⟨D, qs.map (fun q => (V.ref q.1, lnD q.2)), rfl, SqL.of (by rw [hD, List.map_map]; rfl), by rw [List.length_map]; omega, fun b hb => ?_, fun d hd d' hd' => ?_, .inl fun d hd => ?_, fun p hp => ?_⟩
  · obtain ⟨q, hq, rfl⟩ := List.mem_map.mp hb
    exact ⟨.tup (SqT.of (ht q hq)) (dp_strs _), by simp only [lnD, PyData.depth, depth_strs]; decide⟩
  · rw [List.map_map] at hd hd'
    obtain ⟨q, _, rfl⟩ := List.mem_map.mp hd
    obtain ⟨q', _, rfl⟩ := List.mem_map.mp hd'
    exact alike_ln q.2 q'.2
  · rw [List.map_map] at hd
    obtain ⟨q, hq, rfl⟩ := List.mem_map.mp hd
    have := ne q hq
    cases e : q.2 with
    | nil => exact absurd e this
    | cons x r => exact ⟨.str x, r.map PyData.str, by show lnD q.2 = _; rw [e]; rfl⟩
  · have e1 : ((qs.map (fun q => (V.ref q.1, lnD q.2))).mergeSort (PySem.W.dataLe false Prod.snd)) = (qs.mergeSort fun a b => leL a.2 b.2).map (fun q => (V.ref q.1, lnD q.2)) :=
      (List.map_mergeSort (f := fun q : Addr × List Str => (V.ref q.1, lnD q.2)) fun _ _ _ _ => rfl).symm
    have e2 : (qs.mergeSort fun a b => leL a.2 b.2).map Prod.snd = sortL (qs.map Prod.snd) := List.map_mergeSort (f := Prod.snd) fun _ _ _ _ => rfl
    have q := k p (qs.mergeSort fun a b => leL a.2 b.2) hp e2 fun q hq => (List.mergeSort_perm qs _).mem_iff.mp hq
    rw [e1, List.map_map]
    exact q
theorem merge_snoc (xs : List (Key × V)) (p : Key × V) (kvs : List (Key × V)) : mergeK kvs (xs ++ [p]) = putK (mergeK kvs xs) p.1 p.2 := by
  unfold mergeK
  rw [List.foldl_append]
  rfl
theorem val_none {kvs : List (Key × V)} {k : Key} (h : k ∉ kvs.map Prod.fst) : valV kvs k = none := by
  induction kvs with
  | nil => rfl
  | cons p r ih =>
    rw [List.map_cons] at h
    rw [valV_neg (fun e => h (by rw [← e]; exact List.mem_cons_self)), ih fun z => h (List.mem_cons_of_mem _ z)]
theorem val_mem {kvs : List (Key × V)} {k : Key} {v : V} (hn : (kvs.map Prod.fst).Nodup) (h : (k, v) ∈ kvs) : valV kvs k = some v := by
  induction kvs with
  | nil => cases h
  | cons p r ih =>
    rw [List.map_cons, List.nodup_cons] at hn
    rcases List.mem_cons.mp h with rfl | h
    · exact valV_pos rfl
    · rw [valV_neg (fun e => hn.1 (by rw [e]; exact List.mem_map_of_mem (f := Prod.fst) h)), ih hn.2 h]
theorem merge_nodup : ∀ (xs kvs : List (Key × V)), ((kvs ++ xs).map Prod.fst).Nodup → mergeK kvs xs = kvs ++ xs
  | [], kvs, _ => (List.append_nil kvs).symm
  | p :: xs, kvs, h => by
    have e : mergeK kvs (p :: xs) = mergeK (putK kvs p.1 p.2) xs := rfl
    have hk : p.1 ∉ kvs.map Prod.fst := fun z => by
      rw [List.map_append, List.map_cons, List.nodup_append] at h
      exact h.2.2 _ z _ List.mem_cons_self rfl
    rw [e, putK_new _ (val_none hk), merge_nodup xs _ (by rw [List.append_assoc]; exact h), List.append_assoc]
    rfl
end Vf

set_option maxRecDepth 100000
set_option maxHeartbeats 4000000
namespace Vf
open PySem PySem.Spec PyProof.Rows L2
theorem meets_enumT {v : Value} {o : Obj} {H : Heap → Prop} (B : Begins v o H) :
    Meets (Builtin.«enumerate.__new__» ⟨[.type "enumerate", v], []⟩) (fun _ R s => H s.heap ∧
      R (.ok (.ret (.ref (s.heap.push o).objs.size))) { s with heap := (s.heap.push o).push { cls := .type "enumerate", data := .fields #[.none, .bool false, .ref s.heap.objs.size, rawInt 0, .none, .none] } }) :=
  .of_wp fun prog w A R s h => by
    obtain ⟨hp, g, d, tk, os⟩ := s; obtain ⟨h1, h⟩ := h
    have hsub := sub_enumerate
    have q1 : ∀ {A' : Around} {E : Value → Shared → Prop} {Q : Value → Shared → Prop}, Q (.ref hp.objs.size) ⟨hp.push o, g, d, tk, os⟩ → wpAny (model prog w) A' (pyIter v) Q E ⟨hp, g, d, tk, os⟩ :=
      fun q => B.iter prog w _ _ ⟨hp, g, d, tk, os⟩ _ h1 q
    wp_walk using q1
    refine wpAny_stack_any fun st => wpAny_pure ?_
    split
    · rename_i c _ _ _ _ _
      cases (c == Value.type "enumerate")
      · wp_walk using q1
        exact ⟨_, rfl, h⟩
      · wp_walk using q1
        exact ⟨_, rfl, h⟩
    · wp_walk using q1
      exact ⟨_, rfl, h⟩
section
variable {prog : Program} {w : World} {A : Around} {E : Value → Shared → Prop} {s : Shared}
theorem call_enumT {v : Value} {o : Obj} {H : Heap → Prop} {Q : Value → Shared → Prop} (B : Begins v o H) (h1 : H s.heap)
    (h : ∀ h', IsEnum h' (s.heap.objs.size + 1) s.heap.objs.size 0 .none → h'.get? s.heap.objs.size = some o → h'.objs.size = s.heap.objs.size + 2 →
      (∀ b o, s.heap.get? b = some o → h'.get? b = some o) → Q (.ref (s.heap.objs.size + 1)) { s with heap := h' }) :
    wpAny (model prog w) A (call (.type "enumerate") [v]) Q E s := by
  refine callType_new F.called_enumerate (by decide) (F.typeCall_enumerate_1 _) (F.newCall_enumerate_1 _) (fun obj => F.args_object_init_2 obj _) F.entry_enumerate_new
    (meets_enumT B) ⟨h1, ?_⟩
  have hz : (s.heap.push o).objs.size = s.heap.objs.size + 1 := Heap.size_push ..
  show _ ∧ _
  rw [hz]
  have he : IsEnum ((s.heap.push o).push { cls := .type "enumerate", data := .fields #[.none, .bool false, .ref s.heap.objs.size, rawInt 0, .none, .none] }) (s.heap.objs.size + 1) s.heap.objs.size 0 .none := by
    have := Heap.get?_push_size (s.heap.push o) (o := { cls := .type "enumerate", data := .fields #[.none, .bool false, .ref s.heap.objs.size, rawInt 0, .none, .none] }) rfl
    rw [hz] at this; exact this
  refine ⟨⟨_, he, rfl⟩, h _ he (Heap.get?_push_of_some _ (Heap.get?_push_size _ B.free)) (by rw [Heap.size_push, hz]) fun b o x => Heap.get?_push_of_some _ (Heap.get?_push_of_some _ x)⟩
end
/-- the tuple at a, each item in a new pair -/
def IteT (K : PySem.W.Frag) (a : Addr) : It :=
  ⟨fun i H => ∃ (xs : List V) (x : V), SqT K H a xs ∧ xs[i]? = some x, fun i H v H' => ∃ T x, v = .ref T ∧ H T = none ∧ H' = upd H T (.tup [.int (i : Nat), x]) ∧ ∀ xs, SqT K H a xs → xs[i]? = some x, fun i H => ∃ xs : List V, SqT K H a xs ∧ xs.length = i⟩
theorem turn_enumT {P : Program} {w : World} {K : PySem.W.Frag} {elts : List Expr} {kk : Nat} {tpos : Pos} (a e it : Addr) :
    Turn P w K (.Tuple elts kk tpos) (IteT K a) [e, it] e (fun i h => (∃ old, IsEnum h e it ((i : Nat) : Int) old) ∧ h.IsTupleIter it a i ∧ e ≠ it ∧ a ≠ it ∧ a ≠ e) where
  mem := by simp
  obj := fun i h st b hb => by
    obtain ⟨⟨old, he⟩, ⟨o, ho, hc, hd⟩, _⟩ := st
    have e' : b = e ∨ b = it := by simpa using hb
    rcases e' with z | z
    · rw [z]; exact ⟨_, he, fun v q => nomatch q⟩
    · rw [z]; exact ⟨o, ho, fun v q => by rw [hd] at q; cases q⟩
  keep := fun i h h' st k => let ⟨⟨old, he⟩, hi, hne⟩ := st; ⟨⟨old, k e (by simp) _ he⟩, hi.at fun o q => k it (by simp) o q, hne⟩
  item := by
    intro X hP hw hK hc i pins s σ H E I hf st hg
    subst hP hw hK
    obtain ⟨⟨old, he⟩, hit, hne, hai, hae⟩ := st
    obtain ⟨xs, x, hq, hx⟩ := hg
    obtain ⟨its, rv, p, hz⟩ := I.tuple hq
    obtain ⟨u, hu, ru⟩ := rv.get hx
    have hel : e < s.heap.objs.size := Heap.lt_size he
    have hil : it < s.heap.objs.size := by obtain ⟨_, q, _⟩ := hit; exact Heap.lt_size q
    have hlt : i < its.toArray.size := by
      obtain ⟨z, _⟩ := List.getElem?_eq_some_iff.mp hu
      simpa using z
    have p' : s.heap.IsTuple a its.toArray := p
    have hh : X.A.in1.handled = none := I.ok.hd hc
    refine wpAny_pyNext_enum_itemD (Draws.tuple hh it a hai its.toArray) he ⟨hit, p'⟩ hlt hne (by simp [hne, Ne.symm hae]) fun x' h' tk hx' ho hst' hT hsz hk => ?_
    obtain ⟨hit', _⟩ := hst'
    obtain rfl : u = x' := by
      have q : its.toArray[i]? = some x' := hx'
      rw [List.getElem?_toArray, hu] at q
      exact Option.some.inj q
    refine ⟨_, rfl, wpAny_letOwnedTupleGo_enum (s := { s with heap := h', toks := tk + 1 }) ho fun h'' he' sb => ?_⟩
    have hT2 : h''.get? s.heap.objs.size = some { cls := .type "tuple", data := .seq #[.int i tk, u] } := (sb.2 _ (Nat.ne_of_gt hel)).trans hT
    have new : ObjOk X.prog X.w (upd H s.heap.objs.size (.tup [.int (i : Nat), x])) h'' s.heap.objs.size (.tup [.int (i : Nat), x]) :=
      ⟨by show 2 ≤ sizeLine; decide, [.int i tk, u], .cons ⟨_, rfl⟩ (.cons ru .nil), ⟨_, hT2, rfl, _, rfl⟩⟩
    have I1 : Inv X pins σ (upd H s.heap.objs.size (.tup [.int (i : Nat), x])) { s with heap := h'', toks := tk + 1 } :=
      I.turnedNew (ch := [e, it]) (fun b ob hb q => (sb.2 b (fun z => hb (by simp [z]))).trans (hk b ob (fun z => hb (by simp [z])) (fun z => hb (by simp [z])) q)) hf (Nat.le_refl _) new
    refine ⟨.ref s.heap.objs.size, _, I1, rfl, ⟨_, x, rfl, I.hok.fresh (Nat.le_refl _), rfl, fun ys hy => by rw [I.tuple_inj hy hq]; exact hx⟩, ⟨⟨u, ?_⟩, hit'.at fun o q => (sb.2 it (Ne.symm hne)).trans q, hne, hai, hae⟩, fun b hb => ?_⟩
    · have e1 : ((i + 1 : Nat) : Int) = (i : Int) + 1 := by omega
      rw [e1]; exact he'
    · have hb' : b < s.heap.objs.size := by
        have e' : b = e ∨ b = it := by simpa using hb
        rcases e' with z | z
        · rw [z]; exact hel
        · rw [z]; exact hil
      rw [upd_ne (Nat.ne_of_lt hb')]
      exact (hf b hb).1
  done := by
    intro X hP hw hK hc i pins s σ H E I hf st hg
    subst hP hw hK
    obtain ⟨⟨old, he⟩, hit, hne, hai, hae⟩ := st
    obtain ⟨xs, hq, hx⟩ := hg
    obtain ⟨its, rv, p, hz⟩ := I.tuple hq
    obtain ⟨f0, f1, f2, f3, f4, f5⟩ := hf it (by simp)
    have hl := rv.length
    have p' : s.heap.IsTuple a its.toArray := p
    have hi : i = its.toArray.size := by simp; omega
    have hit2 : s.heap.IsTupleIter it a its.toArray.size := hi ▸ hit
    have hh : X.A.in1.handled = none := I.ok.hd hc
    exact wpAny_pyNext_enum_endD (Draws.tuple hh it a hai its.toArray) he ⟨hit2, p'⟩ fun h' eb => ⟨rfl, I.turned (t' := s.toks) (fun b o hb q => eb b o hb q) f0 f1 f3 f4 f5⟩
  self := fun A i s Q E st h => let ⟨⟨_, he⟩, _⟩ := st; wpAny_pyIter_enum he h
def iEnumT (K : PySem.W.Frag) (ta : TA) : TI := fun σ H R => ta σ H fun vs H1 => ∃ a xs, vs = [.ref a] ∧ SqT K H1 a xs ∧ R (IteT K a) H1
theorem pi_enumT {X : Cx} {e : Expr} {ta : TA} {p pos tpos : Pos} {elts : List Expr} {kk : Nat} (hg : Gl X "enumerate") (hm : X.mg "enumerate" = none) (ha : PA X [e] ta) (hs : starEach [e] X.env = [(false, eval e X.env)] := by rfl) :
    PI X (.Tuple elts kk tpos) (.Call (.Name "enumerate" p) [e] [] pos) (iEnumT X.K ta) := by
  refine ⟨fun pins s σ H R I h => ?_⟩
  refine Call_ (ld_blt I hg hm boot_enumerate (PyProof.Rows.callWith_type1 (thn (ha.run pos pins s σ H _ I h) fun us s1 ⟨vs, H1, I1, r1, q1⟩ => ?_) hs rfl))
  obtain ⟨a, xs, ex, hq, q⟩ := q1
  subst ex
  cases r1 with
  | cons r rr =>
    cases rr
    cases r
    obtain ⟨its, rv, p', hz⟩ := I1.tuple hq
    have p2 : s1.heap.IsTuple a its.toArray := p'
    have hal : a < s1.heap.objs.size := by obtain ⟨_, q, _⟩ := p2; exact Heap.lt_size q
    refine call_enumT (begins_tuple a its.toArray) p2 fun h' he hit hsz hk => wpAny_pyIter_enum he ?_
    have I2 : Inv X pins σ H1 { s1 with heap := h' } := I1.kept (t' := s1.toks) hk
    refine ⟨s1.heap.objs.size + 1, [s1.heap.objs.size + 1, s1.heap.objs.size], _, _, H1, rfl, I2, turn_enumT a (s1.heap.objs.size + 1) s1.heap.objs.size, ⟨⟨.none, he⟩, ⟨_, hit, rfl, rfl⟩, Nat.succ_ne_self _, Nat.ne_of_lt hal, fun z => absurd (show s1.heap.objs.size + 1 < s1.heap.objs.size from z ▸ hal) (by omega)⟩, fun b hb => ?_, q⟩
    have e' : b = s1.heap.objs.size + 1 ∨ b = s1.heap.objs.size := by simpa using hb
    have hle : s1.heap.objs.size ≤ b := by
      rcases e' with z | z
      · rw [z]; exact Nat.le_add_right _ _
      · rw [z]; exact Nat.le_refl _
    exact I1.fpOk hle (I1.hok.fresh hle)
theorem walk_enumT {K : PySem.W.Frag} {a : Addr} {xs : List V} : Walk (IteT K a) xs.length (fun H => SqT K H a xs) (YPair (fun i => some (.int (i : Nat))) (fun i => xs[i]?)) := by
  refine ⟨fun i _ hi q => ⟨xs, xs[i], q, by simp [hi]⟩, fun _ q => ⟨xs, q, rfl⟩, fun i H v H' _ q y => ?_⟩
  obtain ⟨T, x, h1, h2, h3, h4⟩ := y
  exact ⟨T, .int (i : Nat), x, h1, h2, h3, rfl, h4 xs q⟩
end Vf

set_option maxRecDepth 100000
set_option maxHeartbeats 4000000
namespace Vf
open PySem PySem.Spec PyProof.Rows L2
theorem sw_dict {kx vx : Expr} {gs : List Comprehension} {scope : Scope} {pos py : Pos} {y : Str} {l : Nat} {env : Env} (hk : env.scope.kind = .function) (hy : env.scope.names.lookup y = some .local)
    (hl : (py.line == pos.line) = true) (ha : (scope.names.any fun (n, k) => n == y && (k == .local || k == .cell)) = false) : swapsWith (.DictComp kx vx gs scope pos) (some (.Name y py)) l env = pure true := by
  have k1 : env.kindOf y = some .local := hy
  have k2 : env.blockKind = .function := by
    unfold Env.blockKind
    rw [hk]
    rfl
  unfold swapsWith
  simp only [k2, k1, ha, Expr.pos, hl]
  rfl
theorem ps_setDc {X : Cx} {i : Nat} {y : Str} {py : Pos} {kx vx tg iter : Expr} {ifs : List Expr} {scope : Scope} {own : List (Str × Nat)} {pos spos : Pos} {wi : TI} {g : TG} {tt : TT} {tk tv : TE} (hc : X.calm = true) (hN : X.N.Nodup)
    (hy : X.N[i]? = some y) (hyl : X.env.scope.names.lookup y = some .local) (hsw : swapsWith (.DictComp kx vx [⟨tg, iter, ifs, 0⟩] scope pos) (some (.Name y py)) spos.line X.env = pure true)
    (hi : PI X tg iter wi) (ok : BlkOk X.N X.env.scope scope own)
    (hg : ∀ (s : Shared) (H : Hp) (C : Addr) (cl : List (Str × Addr)) (fp : List Addr), PG (X.blk s H scope (compEnvC scope cl C X.env) fp) tg g)
    (ht : ∀ (s : Shared) (H : Hp) (C : Addr) (cl : List (Str × Addr)) (fp : List Addr), PTs (X.blk s H scope (compEnvC scope cl C X.env) fp) ifs tt)
    (hk : ∀ (s : Shared) (H : Hp) (C : Addr) (cl : List (Str × Addr)) (fp : List Addr), PE (X.blk s H scope (compEnvC scope cl C X.env) fp) kx tk)
    (he : ∀ (s : Shared) (H : Hp) (C : Addr) (cl : List (Str × Addr)) (fp : List Addr), PE (X.blk s H scope (compEnvC scope cl C X.env) fp) vx tv)
    (hs : ∀ x, foldedSetIterable iter X.env x = pure x := by intro _; rfl) :
    PS X (.Assign [.Name y py] (.DictComp kx vx [⟨tg, iter, ifs, 0⟩] scope pos) spos) (tAsg (tDc wi g tt tk tv (own.map (·.2))) (gName i)) := by
  constructor
  intro pins s σ H D I h
  rw [exec_Assign_Name_used _ _ _ _ hsw]
  refine wpAny_bind (wpAny_standAt (wpAny_bind (show wpAny _ X.A (do
    let _ ← comprehension (.DictComp kx vx [⟨tg, iter, ifs, 0⟩] scope pos) scope X.env (firstIterPos [⟨tg, iter, ifs, 0⟩] pos) newDict false (eval iter X.env) (some (assign (.Name y py) X.env))) _ _ s from ?_)))
  have h' : tDc wi g tt tk tv (own.map (·.2)) σ H (fun x H1 => gName i x σ H1 D.nx) := h
  refine wpAny_bind (thn (dc_core (Qf := fun _ s' => SP X pins D .next s') hc hN I hi ok hg ht hk he hs h' ?_) fun _ s' hq => wpAny_pure (wpAny_pure hq))
  rintro L C s' m H' I' q hn ⟨f0, f1, f2, f3, f4, f5⟩
  refine wpAny_assign_Name (store_ok2 (v := V.ref L) I' hN hy (.inl hyl) rfl ?_ (.inr hyl))
  rintro s2 I2 ⟨a, sb, ha⟩
  have hCa : C ≠ a := by
    rcases ha with z | z
    · exact fun e => f1 (e.trans z)
    · exact fun e => f4 y a z e.symm
  exact ⟨m, hn.sameBut sb hCa, fun h3 sb3 => ⟨_, H', I2.turned (t' := s2.toks) (fun b o hb e => (sb3.2 b hb).trans e) f0 f1 f3 f4 f5, q⟩⟩
end Vf

set_option maxRecDepth 100000
set_option maxHeartbeats 4000000
namespace Vf
open PySem PySem.Spec PyProof.Rows L2
abbrev dc2 (kx vx t0 i0 t1 i1 : Expr) (scope : Scope) (pos : Pos) : Expr := .DictComp kx vx [⟨t0, i0, [], 0⟩, ⟨t1, i1, [], 0⟩] scope pos
section
variable {kx vx t0 i0 t1 i1 : Expr} {scope : Scope} {pos : Pos} {it : Value} {D : Addr} {env : Env}
theorem dc2_outer : compTurn (dc2 kx vx t0 i0 t1 i1 scope pos) 0 it (.ref D) env = (standAt i0.pos >>= fun _ => pyNext it >>= fun r => match r with
    | none => pure (.done .next)
    | some v => letOwnedTupleGo t0 it v >>= fun _ => assign t0 env v >>= fun _ => eval i1 env >>= fun x => standAt i1.pos >>= fun _ => foldedSetIterable i1 env x >>= fun y =>
        holding [y] (pyIter y) >>= fun j => runOwn (.compStart (dc2 kx vx t0 i0 t1 i1 scope pos) 1 j (.ref D) env) env >>= fun _ => again (.compLoop (dc2 kx vx t0 i0 t1 i1 scope pos) 0 it (.ref D) env)) := by rfl
theorem dc2_inner : compTurn (dc2 kx vx t0 i0 t1 i1 scope pos) 1 it (.ref D) env = (standAt i1.pos >>= fun _ => pyNext it >>= fun r => match r with
    | none => pure (.done .next)
    | some v => letOwnedTupleGo t1 it v >>= fun _ => assign t1 env v >>= fun _ => (eval kx env >>= fun a => holding [a] (eval vx env) >>= fun b =>
        standAt { kx.pos with endLine := vx.pos.endLine, endCol := vx.pos.endCol } >>= fun _ => holding [a, b] (dictSet D a b)) >>= fun _ => again (.compLoop (dc2 kx vx t0 i0 t1 i1 scope pos) 1 it (.ref D) env)) := by rfl
end
section
variable {prog : Program} {w : World} {A : Around} {R : Result → Shared → Prop} {s : Shared} {kx vx t0 i0 t1 i1 : Expr} {scope : Scope} {pos : Pos} {it : Value} {D : Addr} {env : Env}
/-- the outer loop, by an invariant with a measure -/
theorem dc2_loop0 (fold : ∀ x, foldedSetIterable i1 env x = pure x) (J : Nat → Shared → Prop)
    (go : ∀ m s₁, J m s₁ → wpAny (model prog w) A (pyNext it) (fun r s₂ => match r with
      | none => R (.ok .next) s₂
      | some v => wpAny (model prog w) A (letOwnedTupleGo t0 it v) (fun _ s₃ => wpAny (model prog w) A (assign t0 env v) (fun _ s₄ => wpAny (model prog w) A (eval i1 env) (fun x s₅ => wpAny (model prog w) A (pyIter x) (fun j s₆ =>
          codeAny (model prog w) A (.compStart (dc2 kx vx t0 i0 t1 i1 scope pos) 1 j (.ref D) env) (fun out s₇ => match out with
            | .ok _ => ∃ l, l < m ∧ J l s₇
            | .error _ => False) s₆) (notedBy (model prog w) A env fun e s' => R (.error e) s') s₅) (notedBy (model prog w) A env fun e s' => R (.error e) s') s₄) (notedBy (model prog w) A env fun e s' => R (.error e) s') s₃)
          (notedBy (model prog w) A env fun e s' => R (.error e) s') s₂) (notedBy (model prog w) A env fun e s' => R (.error e) s') s₁)
    (m : Nat) (h : J m s) : codeAny (model prog w) A (.compLoop (dc2 kx vx t0 i0 t1 i1 scope pos) 0 it (.ref D) env) R s := by
  refine codeAny_loop rfl J (fun m s₁ hJ => ?_) m h
  show wpAny _ A ((compTurn (dc2 kx vx t0 i0 t1 i1 scope pos) 0 it (.ref D) env).onRaise (fun e => do noteFrame e env; theTreesLotGoes e)) _ _ s₁
  refine wpAny_noted ?_
  rw [dc2_outer]
  refine wpAny_bind (wpAny_standAt (wpAny_bind (wpAny_mono (go m s₁ hJ) (fun r s₂ k => ?_) fun _ _ z => z)))
  match r, k with
  | none, k => exact wpAny_pure k
  | some v, k =>
    refine wpAny_bind (wpAny_mono k (fun _ s₃ k => wpAny_bind (wpAny_mono k (fun _ s₄ k => wpAny_bind (wpAny_mono k (fun x s₅ k => ?_) fun _ _ z => z)) fun _ _ z => z)) fun _ _ z => z)
    refine wpAny_bind (wpAny_standAt (wpAny_bind (wpAny_of_eq (fold x) (wpAny_bind (wpAny_holding (wpAny_mono k (fun j s₆ k => wpAny_bind (wpAny_runOwn ?_)) fun _ _ z => z))))))
    rw [Around.mark_none]
    refine codeAny_mono k fun out s₇ k => ?_
    match out, k with
    | .ok _, k =>
      first
        | exact wpAny_pure ⟨rfl, k⟩
        | exact wpAny_bind (wpAny_pure (wpAny_pure ⟨rfl, k⟩))
    | .error _, k => exact k.elim
/-- the inner loop -/
theorem dc2_loop1 (J : Nat → Shared → Prop)
    (go : ∀ m s₁, J m s₁ → wpAny (model prog w) A (pyNext it) (fun r s₂ => match r with
      | none => R (.ok .next) s₂
      | some v => wpAny (model prog w) A (letOwnedTupleGo t1 it v) (fun _ s₃ => wpAny (model prog w) A (assign t1 env v) (fun _ s₄ => wpAny (model prog w) A (eval kx env) (fun a s₅ => wpAny (model prog w) A (eval vx env) (fun b s₆ =>
          wpAny (model prog w) A (dictSet D a b) (fun _ s₇ => ∃ l, l < m ∧ J l s₇) (notedBy (model prog w) A env fun e s' => R (.error e) s') s₆) (notedBy (model prog w) A env fun e s' => R (.error e) s') s₅) (notedBy (model prog w) A env fun e s' => R (.error e) s') s₄)
          (notedBy (model prog w) A env fun e s' => R (.error e) s') s₃) (notedBy (model prog w) A env fun e s' => R (.error e) s') s₂) (notedBy (model prog w) A env fun e s' => R (.error e) s') s₁)
    (m : Nat) (h : J m s) : codeAny (model prog w) A (.compLoop (dc2 kx vx t0 i0 t1 i1 scope pos) 1 it (.ref D) env) R s := by
  refine codeAny_loop rfl J (fun m s₁ hJ => ?_) m h
  show wpAny _ A ((compTurn (dc2 kx vx t0 i0 t1 i1 scope pos) 1 it (.ref D) env).onRaise (fun e => do noteFrame e env; theTreesLotGoes e)) _ _ s₁
  refine wpAny_noted ?_
  rw [dc2_inner]
  refine wpAny_bind (wpAny_standAt (wpAny_bind (wpAny_mono (go m s₁ hJ) (fun r s₂ k => ?_) fun _ _ z => z)))
  match r, k with
  | none, k => exact wpAny_pure k
  | some v, k =>
    refine wpAny_bind (wpAny_mono k (fun _ s₃ k => wpAny_bind (wpAny_mono k (fun _ s₄ k => wpAny_bind (wpAny_bind (wpAny_mono k (fun a s₅ k => ?_) fun _ _ z => z))) fun _ _ z => z)) fun _ _ z => z)
    exact wpAny_bind (wpAny_holding (wpAny_mono k (fun b s₆ k => wpAny_bind (wpAny_standAt (wpAny_holding (wpAny_mono k (fun _ s₇ k => wpAny_pure ⟨rfl, k⟩) fun _ _ z => z)))) fun _ _ z => z))
/-- the inner loop's start -/
theorem dc2_start1 (h0 : codeAny (model prog w) A (.compLoop (dc2 kx vx t0 i0 t1 i1 scope pos) 1 it (.ref D) env) R s)
    (h : wpAny (model prog w) A (pyIter it) (fun j s' => codeAny (model prog w) A (.compLoop (dc2 kx vx t0 i0 t1 i1 scope pos) 1 j (.ref D) env) R s') (notedBy (model prog w) A env fun e s' => R (.error e) s') s) :
    codeAny (model prog w) A (.compStart (dc2 kx vx t0 i0 t1 i1 scope pos) 1 it (.ref D) env) R s := by
  refine codeAny_of_tree ?_
  show wpAny _ A ((compStart (dc2 kx vx t0 i0 t1 i1 scope pos) 1 it (.ref D) env).onRaise (fun e => do noteFrame e env; standAt theWindowsPlace)) _ _ s
  refine wpAny_notedAt ?_
  unfold compStart
  show wpAny _ A (ask >>= _) _ _ s
  refine wpAny_bind (wpAny_askSetting (wpAny_ite ?_))
  split
  · first
      | exact wpAny_bind (wpAny_pure (wpAny_pure ⟨rfl, h0⟩))
      | exact wpAny_pure ⟨rfl, h0⟩
  · refine wpAny_bind (wpAny_rule ?_)
    show wpAny _ A (standAt i1.pos >>= _) _ _ s
    exact wpAny_bind (wpAny_standAt (wpAny_bind (wpAny_mono h (fun _ _ k => wpAny_pure ⟨rfl, k⟩) fun _ _ z => z)))
end
/-- the reading: the keys and values of the turns of the inner walk, stored one by one -/
def tDc2 (wi : TI) (g : TG) (wi1 : TI) (g1 : TG) (tk tv : TE) (vs vs1 : List Nat) : TE := fun σ H Q => wi σ H fun J Ha => ∀ D, Ha D = none → ∃ W : Nat → Nat → Hp → Prop, (∃ m, W 0 m (upd Ha D (.dK []))) ∧ ∀ i m Hb, W i m Hb →
  (J.stop i Hb ∧ Q (.ref D) Hb) ∨ (J.go i Hb ∧ ∃ Nx : Hp → Prop, (∀ Hc, Nx Hc → ∃ l, l < m ∧ W (i + 1) l Hc) ∧ ∀ x Hc, J.yld i Hb x Hc → g x (wipe σ vs) Hc fun τ Hd => wipe τ vs = wipe σ vs ∧ wi1 τ Hd fun J1 He =>
    ∃ W1 : Nat → Nat → Hp → Prop, (∃ m, W1 0 m He) ∧ ∀ j n Hf, W1 j n Hf → (J1.stop j Hf ∧ Nx Hf) ∨ (J1.go j Hf ∧ ∃ N1 : Hp → Prop, (∀ Hg, N1 Hg → ∃ l, l < n ∧ W1 (j + 1) l Hg) ∧ ∀ y Hg, J1.yld j Hf y Hg →
      g1 y (wipe τ vs1) Hg fun υ Hh => wipe υ vs1 = wipe τ vs1 ∧ tk υ Hh fun a Hi => tv υ Hi fun b Hj => ∃ kvs k, a = kV k ∧ Hj D = some (.dK kvs) ∧ kvs.length < sizeLine ∧ N1 (upd Hj D (.dK (putK kvs k b)))))
theorem pe_dc2 {X : Cx} {kx vx t0 i0 t1 i1 : Expr} {scope : Scope} {own : List (Str × Nat)} {vs1 : List Nat} {pos : Pos} {wi wi1 : TI} {g g1 : TG} {tk tv : TE} (calm : X.calm = true) (nd : X.N.Nodup) (src : PI X t0 i0 wi) (blk : BlkOk X.N X.env.scope scope own) (sub : ∀ i ∈ vs1, i ∈ own.map (·.2))
    (pg0 : ∀ s H C cl fp, PG (X.blk s H scope (compEnvC scope cl C X.env) fp) t0 g) (src1 : ∀ s H C cl fp, PI (X.blk s H scope (compEnvC scope cl C X.env) fp) t1 i1 wi1) (pg1 : ∀ s H C cl fp, PG (X.blk s H scope (compEnvC scope cl C X.env) fp) t1 g1)
    (key : ∀ s H C cl fp, PE (X.blk s H scope (compEnvC scope cl C X.env) fp) kx tk) (val : ∀ s H C cl fp, PE (X.blk s H scope (compEnvC scope cl C X.env) fp) vx tv)
    (fold0 : ∀ x, foldedSetIterable i0 X.env x = pure x := by intro _; rfl) (fold1 : ∀ env x, foldedSetIterable i1 env x = pure x := by intro _ _; rfl) :
    PE X (dc2 kx vx t0 i0 t1 i1 scope pos) (tDc2 wi g wi1 g1 tk tv (own.map (·.2)) vs1) := by
  refine ⟨fun pins s σ H Q I h => ?_⟩
  rw [arm_eval_DictComp]
  have captured : ∀ y ∈ scope.names, y.2 = .free → ∃ c, X.env.cells.lookup y.1 = some c := fun y hy e => (blk.free y hy e).elim (fun z => I.ok.has _ (.inl z)) fun z => I.ok.has _ (.inr z)
  refine wpAny_comprehension_free rfl fold0 (closure_ok captured) blk.kind (fun y hy e => by rw [blk.uniq y hy, e]) (thn (src.run pins s σ H _ I h) fun xv sa hx => thn hx fun itv sb hb => ?_)
  obtain ⟨it, fp, tn, J, Ha, rfl, Ia, T, st, fr, q⟩ := hb
  refine wpAny_newObj_type (newEnv_comp ?_)
  generalize hD : sb.heap.objs.size = D
  have freshD : Ha D = none := Ia.hok.fresh (Nat.le_of_eq hD)
  obtain ⟨W, ⟨m0, w0⟩, turn⟩ := q D freshD
  generalize hsc : ({ sb with heap := sb.heap.push { cls := .type "dict", data := .dict #[] } } : Shared) = sc
  have Ic : Inv X pins σ (upd Ha D (.dK [])) sc := by
    rw [← hsc, ← hD]
    exact Ia.laid (t' := sb.toks) (fun b o e => Heap.get?_push_of_some _ e) (Nat.le_refl _) (dk_empty sb.heap Ia.big)
  have heapc : sc.heap = sb.heap.push { cls := .type "dict", data := .dict #[] } := by rw [← hsc]
  have small : ∀ b ∈ fp, b < sb.heap.objs.size := fun b hb => let ⟨_, e, _⟩ := T.obj _ _ st b hb; Heap.lt_size e
  have frc : ∀ b ∈ fp, FpOk X pins (upd Ha D (.dK [])) b ∧ b < sc.heap.objs.size := by
    intro b hb
    have lt := small b hb
    constructor
    · refine ⟨?_, (fr b hb).2⟩
      rw [upd_ne (by rw [← hD]; exact Nat.ne_of_lt lt)]
      exact (fr b hb).1
    · rw [heapc, Heap.size_push]
      exact Nat.lt_succ_of_lt lt
  have stc : tn 0 sc.heap := T.keep _ _ _ st fun b _ o e => by rw [heapc]; exact Heap.get?_push_of_some _ e
  have Id := block_start Ic blk nd frc
  generalize hcl : cellsFrom (sc.heap.objs.size + 1) scope.names (cloFrom X.env.cells scope.names []) = cl at Id
  have pgA := pg0 sc (upd Ha D (.dK [])) sc.heap.objs.size cl fp
  have pgB := pg1 sc (upd Ha D (.dK [])) sc.heap.objs.size cl fp
  have piB := src1 sc (upd Ha D (.dK [])) sc.heap.objs.size cl fp
  have peK := key sc (upd Ha D (.dK [])) sc.heap.objs.size cl fp
  have peV := val sc (upd Ha D (.dK [])) sc.heap.objs.size cl fp
  show codeAny _ _ (.compStart (dc2 kx vx t0 i0 t1 i1 scope pos) 0 (.ref it) (.ref D) (compEnvC scope cl sc.heap.objs.size X.env)) (compPost (model X.prog X.w) X.A X.xe none (EP X pins σ Q) (.ref D) sc.heap.objs.size)
    { sc with heap := pushCells (sc.heap.push { cls := .type "dict", data := .dict #[] }) scope.names }
  have clean : ∀ b ∈ fp, (upd Ha D (.dK [])) b = none := fun b hb => (frc b hb).1.1
  generalize hce : compEnvC scope cl sc.heap.objs.size X.env = ce at Id pgA pgB piB peK peV ⊢
  have loc : ce.locals = sc.heap.objs.size := by rw [← hce]; rfl
  generalize upd Ha D (.dK []) = Hc at Ic Id pgA pgB piB peK peV w0 clean frc
  generalize hsd : ({ sc with heap := pushCells (sc.heap.push { cls := .type "dict", data := .dict #[] }) scope.names } : Shared) = sd at Id ⊢
  have std : tn 0 sd.heap := T.keep _ _ _ stc fun b _ o e => by rw [← hsd]; exact pushCells_keeps _ _ _ _ (Heap.get?_push_of_some _ e)
  have mine : ∀ {τ : L2.St} {H' : Hp} {s' : Shared}, Inv (X.blk sc Hc scope ce fp) [] τ H' s' → (∀ b ∈ fp, H' b = none) → ∀ b ∈ fp, FpOk (X.blk sc Hc scope ce fp) [] H' b := by
    intro τ H' s' I' free b hb
    exact ⟨free b hb, (I'.ok.exf b hb).1, I'.ok.exfs b hb, .inl hb, fun y c e => (I'.ok.exf b hb).2 y c e, fun p hp => nomatch (show p ∈ ([] : List (Addr × Obj)) ++ [] from hp)⟩
  -- what holds ahead of each turn of the outer walk
  let J0 : Nat → Shared → Prop := fun m s' => ∃ i H', Inv (X.blk sc Hc scope ce fp) [] (wipe σ (own.map (·.2))) H' s' ∧ tn i s'.heap ∧ (∀ b ∈ fp, H' b = none) ∧ W i m H'
  have outer : codeAny (model X.prog X.w) X.A (.compLoop (dc2 kx vx t0 i0 t1 i1 scope pos) 0 (.ref it) (.ref D) ce) (compPost (model X.prog X.w) X.A X.xe none (EP X pins σ Q) (.ref D) sc.heap.objs.size) sd := by
    refine dc2_loop0 (fold1 ce) J0 ?_ m0 ⟨0, Hc, Id, std, clean, w0⟩
    rintro m se ⟨i, He, Ie, ste, free, we⟩
    rcases turn i m He we with ⟨stop, qq⟩ | ⟨go, Nx, more, step⟩
    · refine thnF (T.done (X.blk sc Hc scope ce fp) rfl rfl rfl calm i [] se _ He (fun _ _ => False) Ie (mine Ie free) ste stop) fun r sf ⟨hr, If⟩ => ?_
      subst hr
      have Ig : Inv X pins σ He sf := Ic.call' (ch := fp) If.os If.base If.hok If.bare fun b hb => let z := (frc b hb).1.2; ⟨z.2.2.1, z.1, z.2.2.2.1, z.2.2.2.2⟩
      have gone : He sc.heap.objs.size = none := by
        have z : He ce.locals = none := If.free
        rwa [loc] at z
      obtain ⟨ns, hns, _⟩ := If.loc
      have hns : sf.heap.Ns ce.locals ns := hns
      rw [loc] at hns
      obtain ⟨f0, f1, f2, f3, f4, f5⟩ := Ic.fpOk (Nat.le_refl _) gone
      refine ⟨ns, hns, fun hz sb => ?_⟩
      exact ⟨.ref D, He, Ig.turned (t' := sf.toks) (fun b o hb e => (sb.2 b hb).trans e) f0 f1 f3 f4 f5, rfl, qq⟩
    · refine thnF (T.item (X.blk sc Hc scope ce fp) rfl rfl rfl calm i [] se _ He (fun _ _ => False) Ie (mine Ie free) ste go) fun r sf ⟨u, hr, hf⟩ => ?_
      subst hr
      refine thnF hf fun _ sg ⟨x, Hg, Ig, rx, yx, stg, freeg⟩ => ?_
      have Ig' := Ig.pinned (mine Ig freeg) (T.obj _ _ stg)
      refine thnF (pgA.run _ sg _ Hg x u _ Ig' rx (step x Hg yx)) fun _ sh ⟨τ, Hh, Ih, wτ, qh⟩ => ?_
      -- the end of a turn
      have ends : ∀ {υ : L2.St} {s' : Shared} {H' : Hp}, Inv (X.blk sc Hc scope ce fp) ([] ++ pinsAt fp sg.heap) υ H' s' → (wipe σ (own.map (·.2))).length = υ.length → (∀ (j : Nat) v, (wipe σ (own.map (·.2)))[j]? = some (some v) → υ[j]? = some (some v)) → Nx H' → ∃ l, l < m ∧ J0 l s' := by
        intro υ s' H' I' len known nx
        obtain ⟨l, hl, wl⟩ := more H' nx
        have still : ∀ b ∈ fp, ∀ o, sg.heap.get? b = some o → s'.heap.get? b = some o ∧ H' b = none := fun b hb o e =>
          let z := I'.pin (b, o) (List.mem_append_right _ (List.mem_append_right _ (mem_pinsAt hb e)))
          ⟨z.1, z.2.1⟩
        refine ⟨l, hl, i + 1, H', (I'.unpinned (pins := [])).weak len known, T.keep _ _ _ stg fun b hb o e => (still b hb o e).1, fun b hb => ?_, wl⟩
        obtain ⟨o, e, _⟩ := T.obj _ _ stg b hb
        exact (still b hb o e).2
      have lenτ : (wipe σ (own.map (·.2))).length = (wipe τ vs1).length := by rw [← wτ, wipe_length, wipe_length]
      have knownτ : ∀ (j : Nat) v, (wipe σ (own.map (·.2)))[j]? = some (some v) → (wipe τ vs1)[j]? = some (some v) := by
        intro j v e
        rw [← wτ] at e
        obtain ⟨ea, eb⟩ := wipe_some e
        rw [wipe_out fun z => eb (sub j z)]
        exact ea
      refine thnF (piB.run _ sh τ Hh _ Ih qh) fun yv si hi => thnF hi fun jv sj hj => ?_
      obtain ⟨it1, fp1, tn1, J1, Hj, rfl, Ij, T1, stj, frj, W1, ⟨m1, w1⟩, turn1⟩ := hj
      have mine1 : ∀ {H' : Hp}, (∀ b ∈ fp1, H' b = none) → ∀ b ∈ fp1, FpOk (X.blk sc Hc scope ce fp) ([] ++ pinsAt fp sg.heap) H' b := fun free b hb => ⟨free b hb, (frj b hb).2⟩
      let JI : Nat → Shared → Prop := fun n s' => ∃ j H', Inv (X.blk sc Hc scope ce fp) ([] ++ pinsAt fp sg.heap) (wipe τ vs1) H' s' ∧ tn1 j s'.heap ∧ (∀ b ∈ fp1, H' b = none) ∧ W1 j n H'
      have inner : codeAny (model X.prog X.w) X.A (.compLoop (dc2 kx vx t0 i0 t1 i1 scope pos) 1 (.ref it1) (.ref D) ce) (fun out s' => match out with
          | .ok _ => ∃ l, l < m ∧ J0 l s'
          | .error _ => False) sj := by
        refine dc2_loop1 JI ?_ m1 ⟨0, Hj, Ij.weak (wipe_length _ _) (fun j v e => (wipe_some e).1), stj, fun b hb => (frj b hb).1, w1⟩
        rintro n sk ⟨j, Hk, Ik, stk, freek, wk⟩
        rcases turn1 j n Hk wk with ⟨stop1, nx⟩ | ⟨go1, N1, more1, step1⟩
        · refine thnF (T1.done (X.blk sc Hc scope ce fp) rfl rfl rfl calm j _ sk (wipe τ vs1) Hk (fun _ _ => False) Ik (mine1 freek) stk stop1) fun r sl ⟨hr, Il⟩ => ?_
          subst hr
          exact ends Il lenτ knownτ nx
        · refine thnF (T1.item (X.blk sc Hc scope ce fp) rfl rfl rfl calm j _ sk (wipe τ vs1) Hk (fun _ _ => False) Ik (mine1 freek) stk go1) fun r sl ⟨u1, hr, hl⟩ => ?_
          subst hr
          refine thnF hl fun _ sm ⟨y, Hm, Im, ry, yy, stm, freem⟩ => ?_
          have Im' := Im.pinned (mine1 freem) (T1.obj _ _ stm)
          refine thnF (pgB.run _ sm (wipe τ vs1) Hm y u1 _ Im' ry (step1 y Hm yy)) fun _ sn ⟨υ, Hn, In, wυ, qn⟩ => ?_
          refine thnF (peK.run _ sn υ Hn _ In qn) fun a so ⟨ya, Ho, Io, ra, qo⟩ => ?_
          refine thnF (peV.run _ so υ Ho _ Io qo) fun b sp ⟨yb, Hp', Ip, rb, kvs, k, ek, hDp, few, nx⟩ => ?_
          subst ek
          refine d_dictSet (X := X.blk sc Hc scope ce fp) Ip hDp few ra rb fun sq Iq => ?_
          obtain ⟨l, hl1, wl⟩ := more1 _ nx
          have still : ∀ b ∈ fp1, ∀ o, sm.heap.get? b = some o → sq.heap.get? b = some o ∧ (upd Hp' D (.dK (putK kvs k yb))) b = none := fun b hb o e =>
            let z := Iq.pin (b, o) (List.mem_append_right _ (List.mem_append_right _ (mem_pinsAt hb e)))
            ⟨z.1, z.2.1⟩
          refine ⟨l, hl1, j + 1, _, Iq.unpinned.weak (by rw [← wυ, wipe_length]) (fun j v e => by rw [← wυ] at e; exact (wipe_some e).1), T1.keep _ _ _ stm fun b hb o e => (still b hb o e).1, fun b hb => ?_, wl⟩
          obtain ⟨o, e, _⟩ := T1.obj _ _ stm b hb
          exact (still b hb o e).2
      exact dc2_start1 inner (T1.self X.A 0 _ _ _ stj inner)
  exact codeAny_compStart_dict outer (T.self X.A 0 _ _ _ std outer)
end Vf

set_option maxRecDepth 100000
set_option maxHeartbeats 8000000
namespace Vf
open PySem PySem.Spec PyProof.Rows L2
def srtCs (cs : List (Str × Nat)) : List (Str × Nat) := (srt (cs.map Prod.fst)).map fun z => (z, sizeOfD cs z)
def numPr (ls : List (List Str)) : List (Key × V) := ls.zipIdx.flatMap fun q => q.1.map fun z => (Sum.inr z, V.int (q.2 : Int))
def rTup (K : PySem.W.Frag) : List V → Hp → VK → Prop := fun xs H Q => ∃ p ys, xs = [.ref p] ∧ ((SqL K H p ys ∧ ∀ l, H l = none → Q (.ref l) (upd H l (.tup ys))) ∨ (SqT K H p ys ∧ Q (.ref p) H))
theorem cr_tup {X : Cx} {K : PySem.W.Frag} (hK : X.K = K) : CallR X (.type "tuple") (rTup K) := by
  subst hK
  exact call_tuple_of
def lflds (sd : Addr) (r : Nat) (t nd : Addr) : List (Str × V) := [("_sizes", V.ref sd), ("room", V.int (r : Int)), ("lines", V.ref t), ("_numbers", V.ref nd)]
theorem putF_ne {f g : Str} {v x : V} {r : List (Str × V)} (h : ¬ g = f) : putF f v ((g, x) :: r) = (g, x) :: putF f v r := if_neg h
theorem lflds_put (sd : Addr) (r : Nat) (t nd : Addr) : putF "_numbers" (.ref nd) (putF "lines" (.ref t) (putF "room" (.int (r : Int)) (putF "_sizes" (.ref sd) []))) = lflds sd r t nd := by
  have a1 : putF ("_sizes" : Str) (V.ref sd) [] = [(("_sizes" : Str), V.ref sd)] := rfl
  rw [a1, putF_ne (by decide +kernel)]
  have a2 : putF ("room" : Str) (V.int (r : Int)) [] = [(("room" : Str), V.int (r : Int))] := rfl
  rw [a2, putF_ne (by decide +kernel), putF_ne (by decide +kernel)]
  have a3 : putF ("lines" : Str) (V.ref t) [] = [(("lines" : Str), V.ref t)] := rfl
  rw [putF_ne (by decide +kernel), a3, putF_ne (by decide +kernel), putF_ne (by decide +kernel)]
  rfl
theorem lk_ne {f g : Str} {v : V} {r : List (Str × V)} (h : (g == f) = false) : List.lookup g ((f, v) :: r) = List.lookup g r := by rw [List.lookup_cons, h]
theorem lk_sizes {sd : Addr} {r : Nat} {t nd : Addr} : (lflds sd r t nd).lookup ("_sizes" : Str) = some (.ref sd) := by unfold lflds; rw [List.lookup_cons_self]
theorem lk_room {sd : Addr} {r : Nat} {t nd : Addr} : (lflds sd r t nd).lookup ("room" : Str) = some (.int (r : Int)) := by unfold lflds; rw [lk_ne (by decide +kernel), List.lookup_cons_self]
theorem lk_lines {sd : Addr} {r : Nat} {t nd : Addr} : (lflds sd r t nd).lookup ("lines" : Str) = some (.ref t) := by unfold lflds; rw [lk_ne (by decide +kernel), lk_ne (by decide +kernel), List.lookup_cons_self]
theorem lk_numbers {sd : Addr} {r : Nat} {t nd : Addr} : (lflds sd r t nd).lookup ("_numbers" : Str) = some (.ref nd) := by unfold lflds; rw [lk_ne (by decide +kernel), lk_ne (by decide +kernel), lk_ne (by decide +kernel), List.lookup_cons_self]
structure TxtL (K : PySem.W.Frag) (mg : Str → Option Value) (C : Addr) : Prop where
  cl : Cls K C
  nS : NoAttr K C "_sizes"
  nR : NoAttr K C "room"
  nL : NoAttr K C "lines"
  nN : NoAttr K C "_numbers"
  mgC : mg "Layout" = some (.ref C)
theorem numPr_step {ls : List (List Str)} {i : Nat} {ws : List Str} (h : ls[i]? = some ws) : numPr (ls.take (i + 1)) = numPr (ls.take i) ++ ws.map fun z => (Sum.inr z, V.int (i : Int)) := by
  have hl : (ls.take i).length = i := by
    rw [List.length_take]
    have := (List.getElem?_eq_some_iff.mp h).1
    omega
  unfold numPr
  rw [List.take_add_one, h, Option.toList_some, List.zipIdx_append, List.flatMap_append, hl, Nat.zero_add]
  simp
theorem numPr_len {ls : List (List Str)} : (numPr ls).length = ls.flatten.length := by
  have e : ∀ (ls : List (List Str)) (k : Nat), ((ls.zipIdx k).flatMap fun q => q.1.map fun z => ((Sum.inr z, V.int (q.2 : Int)) : Key × V)).length = ls.flatten.length := by
    intro ls
    induction ls with
    | nil => intro k; rfl
    | cons w r ih =>
      intro k
      rw [List.zipIdx_cons, List.flatMap_cons, List.length_append, ih, List.flatten_cons, List.length_append, List.length_map]
  exact e ls 0
theorem flat_srt : ∀ ps : List (Addr × List Str), (ps.map fun p => srt p.2).flatten.length = (ps.flatMap Prod.snd).length
  | [] => rfl
  | a :: r => by rw [List.map_cons, List.flatten_cons, List.length_append, List.flatMap_cons, List.length_append, (srt_perm a.2).length_eq, flat_srt r]
theorem none_back {H H' : Hp} {a : Addr} (s : Same H H') (h : H' a = none) : H a = none := by
  cases e : H a with
  | none => rfl
  | some o => rw [s _ _ e] at h; cases h
theorem none_but {p a : Addr} {H H' : Hp} {o : HO} (b : But p H H') (hp : H' p = some o) (h : H' a = none) : H a = none := by
  cases e : H a with
  | none => rfl
  | some u =>
    have hn : a ≠ p := fun z => by rw [z, hp] at h; cases h
    rw [b _ _ hn e] at h
    cases h
/-- a layout: cells with sizes by name, room, lines -/
def LayAt (C : Addr) (H : Hp) (p sd nd : Addr) (cs : List (Str × Nat)) (r : Nat) (ls : List (List Str)) : Prop :=
  ∃ dx t qs, H p = some (.ins C dx (lflds sd r t nd)) ∧ H sd = some (.dK (cellKv cs)) ∧ H nd = some (.dK (mergeK [] (numPr ls))) ∧ LinesAt H t qs ∧ qs.map Prod.snd = ls
theorem LayAt.same {C : Addr} {H H' : Hp} {p sd nd : Addr} {cs : List (Str × Nat)} {r : Nat} {ls : List (List Str)} (h : LayAt C H p sd nd cs r ls) (s : Same H H') : LayAt C H' p sd nd cs r ls := by
  obtain ⟨dx, t, qs, h1, h2, h3, h4, h5⟩ := h
  exact ⟨dx, t, qs, s _ _ h1, s _ _ h2, s _ _ h3, h4.same s, h5⟩
def linesOf (ps : List (Addr × List Str)) : List (List Str) := sortL (ps.map fun p => srt p.2)
theorem srtCs_take (cs : List (Str × Nat)) (i : Nat) : (srtCs cs).take i = ((srt (cs.map Prod.fst)).take i).map fun z => (z, sizeOfD cs z) := by
  unfold srtCs
  rw [List.map_take]
theorem srtCs_len (cs : List (Str × Nat)) : (srtCs cs).length = cs.length := by
  unfold srtCs
  rw [List.length_map, (srt_perm _).length_eq, List.length_map]
section
variable {P : Program} {w : World} {K : PySem.W.Frag} {mg : Str → Option Value} {base : Heap}
def sp_Layout_init (C : Addr) : Sp := fun vs H Q _ => ∃ (p dx d l : Addr) (cs : List (Str × Nat)) (r : Nat) (ps : List (Addr × List Str)), vs = [.ref p, .ref d, .int (r : Int), .ref l] ∧ H p = some (.ins C dx []) ∧ H d = some (.dK (cellKv cs)) ∧ GoodCs cs ∧ 1 ≤ r ∧ r ≤ 32 ∧ InLines H l cs r ps ∧
  ∀ H' sd nd, But p H H' → H sd = none → H nd = none → sd ≠ nd → LayAt C H' p sd nd (srtCs cs) r (linesOf ps) → Q .non H'
theorem ok_Layout_init {f C : Addr} {fd : FuncData} (F : Fun K "__init__" "Layout.__init__" s_Layout_init f fd) (T : Txt0 K mg) (TL : TxtL K mg C) (GC : OkF P w K mg base CX0 "_check_cells" p_check_cells 3 sp_check_cells)
    (GR : OkF P w K mg base CX0 "_check_room" p_check_room 3 sp_check_room) (GL : OkF P w K mg base CX0 "_are_lines" p_are_lines 3 sp_are_lines) : FnOk P w K mg base CX0 4 f fd p_Layout_init (sp_Layout_init C) := by
  refine F.ok sc_Layout_init (fun vs H Q E h => ?_) (fun cdv A outer s H vs Q E hr h => ?_)
  · obtain ⟨p, dx, d, l, cs, r, ps, rfl, _⟩ := h
    rfl
  · obtain ⟨p, dx, d, l, cs, r, ps, rfl, hp, hd, g, r1, r2, il, k⟩ := h
    refine ⟨_, pss_cons (ps_expr (pe_fn GC hr rfl pass0 (pa_cons (pv 1) pa_nil))) (pss_cons (ps_expr (pe_fn GR hr rfl pass0 (pa_cons (pv 2) pa_nil)))
      (pss_cons (ps_if (pt_not (pt_val (pe_fn GL hr rfl pass0 (pa_cons (pv 1) (pa_cons (pv 2) (pa_cons (pv 3) pa_nil)))))) (pss_one ps_never) pss_nil)
      (pss_cons (ps_fld (pv 0) (pe_dc (own := [("name", 4)]) (g := gName 4) (tt := tYes) rfl sc_Layout_init.nd (pi_list (pe_callB (call_sortedD rfl) (by rfl) T.sorted (by decide +kernel) (pa_cons (pv 1) pa_nil))) (blkOk_by (N := n_Layout_init) (sc := defScope s_Layout_init) (by decide +kernel))
          (fun _ _ _ _ _ => pg_name (i := 4) sc_Layout_init.nd rfl (Or.inl rfl)) (fun _ _ _ _ _ => pts_nil) (fun _ _ _ _ _ => pv 4) (fun _ _ _ _ _ => pe_dget (hu_of hr) (pv 1) (pv 4) (fun _ _ => rfl))) rfl)
      (pss_cons (ps_fld (pv 0) (pv 2) rfl)
      (pss_cons (ps_fld (pv 0) (pe_callTy call_tuple_of (by rfl) T.tuple (by decide +kernel) (pa_cons (pe_callB (cr_sortedD hr) (by rfl) T.sorted (by decide +kernel) (pa_cons
          (pe_lc (own := [("line", 5)]) (g := gName 5) (tt := tYes) rfl sc_Layout_init.nd (pi_list (pv 3)) (blkOk_by (N := n_Layout_init) (sc := defScope s_Layout_init) (by decide +kernel))
            (fun _ _ _ _ _ => pg_name (i := 5) sc_Layout_init.nd rfl (Or.inl rfl)) (fun _ _ _ _ _ => pts_nil)
            (fun _ _ _ _ _ => pe_callTy (cr_tup (K := K) rfl) (by rfl) T.tuple (by decide +kernel) (pa_cons (pe_callB (r := rSortedS K) cr_sortedS (by rfl) T.sorted (by decide +kernel) (pa_cons (pv 5) pa_nil)) pa_nil))) pa_nil)) pa_nil)) rfl)
      (pss_one (ps_fld (pv 0) (pe_dc2 (own := [("number", 6), ("line", 5), ("name", 4)]) (vs1 := [4]) (wi1 := iTup K (tVar 5)) (g := gTup K 2 (gCons (gName 6) (gCons (gName 5) gNil))) (g1 := gName 4) rfl sc_Layout_init.nd
          (pi_enumT (by rfl) T.enumerate (pa_cons (pe_fld (pv 0) rfl) pa_nil)) (blkOk_by (N := n_Layout_init) (sc := defScope s_Layout_init) (by decide +kernel)) (by decide)
          (fun _ _ _ _ _ => pg_tup (by rfl) (pgs_cons (pg_name (i := 6) sc_Layout_init.nd rfl (Or.inl rfl)) (pgs_cons (pg_name (i := 5) sc_Layout_init.nd rfl (Or.inl rfl)) pgs_nil)))
          (fun _ _ _ _ _ => pi_tup (pv 5)) (fun _ _ _ _ _ => pg_name (i := 4) sc_Layout_init.nd rfl (Or.inl rfl)) (fun _ _ _ _ _ => pv 4) (fun _ _ _ _ _ => pv 6)) rfl))))))), ?_⟩
    have few := g.few
    refine ⟨_, rfl, d, cs, rfl, hd, g, fun H1 s1 => ⟨_, rfl, r, rfl, r1, r2, ?_⟩⟩
    refine ⟨_, rfl, _, rfl, _, rfl, d, l, cs, r, ps, rfl, s1 _ _ hd, g, il.same s1, fun H2 s2 => ⟨_, rfl, iteF ?_⟩⟩
    have s12 := s1.trans s2
    refine ⟨_, rfl, d, cellKv cs, cs.map Prod.fst, rfl, .inl (s12 _ _ hd), cell_keys cs, by rw [List.length_map]; omega, fun zs q1 hz1 hz2 hq1 => ⟨q1, rfl, ⟨_, SqL.of upd_same⟩, fun sd hsd => ?_⟩⟩
    obtain rfl : zs = srt (cs.map Prod.fst) := srt_of hz1 hz2
    have s3 : Same H (upd H2 q1 (.lst ((srt (cs.map Prod.fst)).map V.str))) := s12.trans (same_new hq1)
    have e3 : (upd H2 q1 (.lst ((srt (cs.map Prod.fst)).map V.str))) q1 = some (.lst ((srt (cs.map Prod.fst)).map V.str)) := upd_same
    generalize hH3 : upd H2 q1 (.lst ((srt (cs.map Prod.fst)).map V.str)) = H3 at s3 e3 hsd ⊢
    have hzl : (srt (cs.map Prod.fst)).length = cs.length := by rw [(srt_perm _).length_eq, List.length_map]
    have znd : (srt (cs.map Prod.fst)).Nodup := (srt_perm _).nodup_iff.mpr g.nd
    have wz : Walk (Itl K q1) (srt (cs.map Prod.fst)).length (fun H => SqL K H q1 ((srt (cs.map Prod.fst)).map V.str)) (YAt ((srt (cs.map Prod.fst)).map V.str)) := (walk_list (K := K) (a := q1) (xs := (srt (cs.map Prod.fst)).map V.str) |> fun z => by rw [List.length_map] at z; exact z)
    refine dc_it wz (fun i H' => Same H3 H' ∧ H' sd = some (.dK (cellKv ((srtCs cs).take i)))) ⟨same_new hsd, upd_same⟩ (fun i H' _ q => SqL.of (q.1 _ _ e3)) ?_ ?_
    · rintro i x H4 H5 hi ⟨s4, e4⟩ ⟨rfl, hx⟩
      have hj : (srt (cs.map Prod.fst))[i]? = some (srt (cs.map Prod.fst))[i] := List.getElem?_eq_getElem hi
      generalize (srt (cs.map Prod.fst))[i] = z at hj
      rw [List.getElem?_map, hj] at hx
      obtain rfl : V.str z = x := Option.some.inj hx
      have hz := size_some ((srt_perm _).mem_iff.mp (List.mem_of_getElem? hj))
      have gg := DGet.k (k := Sum.inr z) (s4 _ _ (s3 _ _ hd))
      rw [valV_cells, hz] at gg
      refine ⟨rfl, _, rfl, _, rfl, _, rfl, d, _, rfl, gg, _, Sum.inr z, rfl, e4, ?_, same_upd s4 hsd, ?_⟩
      · show (cellKv _).length < _
        unfold cellKv
        rw [List.length_map, List.length_take, srtCs_len, sizeLine_eq]
        omega
      · rw [upd_same, putK_new]
        · rw [srtCs_take, srtCs_take, List.take_add_one, hj, List.map_append]
          unfold cellKv
          rw [List.map_append]
          rfl
        · refine val_none fun hk => ?_
          rw [cell_keys, srtCs_take, List.map_map] at hk
          obtain ⟨y, hy, hyz⟩ := List.mem_map.mp hk
          obtain ⟨y', hy', rfl⟩ := List.mem_map.mp hy
          have hyz' : y' = z := Sum.inr.inj hyz
          subst hyz'
          obtain ⟨n, hn1, hn2⟩ := List.getElem_of_mem hy'
          rw [List.getElem_take] at hn2
          rw [List.length_take] at hn1
          have : n = i := ((List.getElem?_inj (by omega) znd).mp (by rw [hj, List.getElem?_eq_getElem (by omega), ← hn2]))
          omega
    · rintro H4 ⟨s4, e4⟩
      rw [List.take_of_length_le (by rw [srtCs_len]; omega)] at e4
      have s34 := s3.trans s4
      have hp4 := s34 _ _ hp
      refine ⟨_, rfl, p, C, dx, [], rfl, hp4, TL.cl, TL.nS, (by show 0 < 1000; decide), ?_⟩
      refine ⟨_, rfl, _, rfl, p, C, dx, _, rfl, upd_same, TL.cl, TL.nR, (by show 1 < 1000; decide), ?_⟩
      have b5 : But p H4 (upd (upd H4 p (.ins C dx (putF "_sizes" (.ref sd) []))) p (.ins C dx (putF "room" (.int (r : Int)) (putF "_sizes" (.ref sd) [])))) := ((But.refl p H4).put).put
      have ep5 : (upd (upd H4 p (.ins C dx (putF "_sizes" (.ref sd) []))) p (.ins C dx (putF "room" (.int (r : Int)) (putF "_sizes" (.ref sd) [])))) p = some (.ins C dx (putF "room" (.int (r : Int)) (putF "_sizes" (.ref sd) []))) := upd_same
      generalize (upd (upd H4 p (.ins C dx (putF "_sizes" (.ref sd) []))) p (.ins C dx (putF "room" (.int (r : Int)) (putF "_sizes" (.ref sd) [])))) = H5 at b5 ep5 ⊢
      have bH5 : But p H H5 := (Same.but s34).trans b5
      have il5 : InLines H5 l cs r ps := ⟨bH5 _ _ (ne_of il.at_ hp (by intro z; cases z)) il.at_, fun q hq => ⟨bH5 _ _ (ne_of (il.each q hq).1 hp (by intro z; cases z)) (il.each q hq).1, (il.each q hq).2⟩, il.perm⟩
      have l6 := il.len g
      have lp := flat_len fun p hp => (il.each p hp).2.1
      have each : ∀ p ∈ ps, p.2.length ≤ 6 := fun p hp => Nat.le_trans (flat_part hp) l6
      have wl : ∀ {a : Addr}, Walk (Itl K a) ps.length (fun H => SqL K H a (ps.map fun p => V.ref p.1)) (YAt (ps.map fun p => V.ref p.1)) := fun {a} => (walk_list (K := K) (a := a) (xs := ps.map fun p => V.ref p.1) |> fun z => by rw [List.length_map] at z; exact z)
      refine ⟨_, rfl, l, rfl, ⟨_, SqL.of il5.at_⟩, fun D hD => lc_ad ps wl hD (fun p v H => ∃ t, v = .ref t ∧ H t = some (.tup ((srt p.2).map V.str))) (by omega) (fun H6 s6 => SqL.of (s6 _ _ il5.at_)) ?_ ?_⟩
      · rintro i a x H6 H7 ha s6 ⟨acc, hacc⟩ ⟨rfl, hx⟩ R hR
        rw [List.getElem?_map, ha] at hx
        obtain rfl : V.ref a.1 = x := Option.some.inj hx
        have hm := List.mem_of_getElem? ha
        obtain ⟨h1, h2, h3⟩ := il5.each a hm
        refine ⟨rfl, _, rfl, a.1, a.2, rfl, SqL.of (s6 _ _ h1), by have := each a hm; omega, fun ys q hy1 hy2 hq => ⟨q, _, rfl, .inl ⟨SqL.of upd_same, fun t ht => ?_⟩⟩⟩
        obtain rfl : ys = srt a.2 := srt_of hy1 hy2
        have sq := same_new (o := .lst ((srt a.2).map V.str)) hq
        refine hR (.ref t) _ (sq.trans (same_new ht)) fun H8 b8 => ⟨t, rfl, b8 t _ (ne_of_none (sq _ _ hacc) ht).symm upd_same⟩
      · intro H6 xs s6 hL hlen hpr
        obtain ⟨qs, rfl, eqs, hqs⟩ := qs_of (H := H6) (ps.map fun p => srt p.2) xs (by rw [hlen, List.length_map]) fun i ws v h1 h2 => by
          rw [List.getElem?_map] at h1
          cases e : ps[i]? with
          | none => rw [e] at h1; cases h1
          | some a =>
            rw [e] at h1
            obtain rfl : srt a.2 = ws := Option.some.inj h1
            exact hpr i a v e h2
        have qne : ∀ q ∈ qs, q.2 ≠ [] := fun q hq z => by
          have hm : q.2 ∈ qs.map Prod.snd := List.mem_map_of_mem hq
          rw [eqs] at hm
          obtain ⟨a, ha, ea⟩ := List.mem_map.mp hm
          have := (srt_perm a.2).length_eq
          rw [show srt a.2 = [] from ea.trans z] at this
          exact (il.each a ha).2.1 (List.length_eq_zero_iff.mp this.symm)
        rw [show ∀ σ H Q, tNil σ H Q = Q [] H from fun _ _ _ => rfl]
        refine lines_sorted (K := K) hL hqs (by rw [List.length_map] at hlen; omega) qne fun q2 rs hq2 hrs hin => ⟨q2, _, rfl, .inl ⟨SqL.of upd_same, fun t ht => ?_⟩⟩
        have s7 : Same H5 (upd (upd H6 q2 (.lst (rs.map fun q => V.ref q.1))) t (.tup (rs.map fun q => V.ref q.1))) := s6.trans ((same_new hq2).trans (same_new ht))
        have lt : LinesAt (upd (upd H6 q2 (.lst (rs.map fun q => V.ref q.1))) t (.tup (rs.map fun q => V.ref q.1))) t rs := ⟨upd_same, fun q hq => (same_new hq2).trans (same_new ht) _ _ (hqs q (hin q hq))⟩
        generalize (upd (upd H6 q2 (.lst (rs.map fun q => V.ref q.1))) t (.tup (rs.map fun q => V.ref q.1))) = H7 at s7 lt ⊢
        have hp7 := s7 _ _ ep5
        refine ⟨_, rfl, p, C, dx, _, rfl, hp7, TL.cl, TL.nL, (by show 2 < 1000; decide), ?_⟩
        have b8 : But p H7 (upd H7 p (.ins C dx (putF "lines" (.ref t) (putF "room" (.int (r : Int)) (putF "_sizes" (.ref sd) []))))) := (But.refl p H7).put
        have ep8 : (upd H7 p (.ins C dx (putF "lines" (.ref t) (putF "room" (.int (r : Int)) (putF "_sizes" (.ref sd) []))))) p = some (.ins C dx (putF "lines" (.ref t) (putF "room" (.int (r : Int)) (putF "_sizes" (.ref sd) [])))) := upd_same
        have tp : t ≠ p := ne_of lt.1 hp7 (by intro z; cases z)
        have lt8 : LinesAt (upd H7 p (.ins C dx (putF "lines" (.ref t) (putF "room" (.int (r : Int)) (putF "_sizes" (.ref sd) []))))) t rs := ⟨b8 _ _ tp lt.1, fun q hq => b8 _ _ (ne_of (lt.2 q hq) hp7 (by intro z; cases z)) (lt.2 q hq)⟩
        generalize (upd H7 p (.ins C dx (putF "lines" (.ref t) (putF "room" (.int (r : Int)) (putF "_sizes" (.ref sd) []))))) = H8 at b8 ep8 lt8 ⊢
        have bH8 : But p H H8 := (bH5.then s7).trans b8
        have b48 : But p H4 H8 := (b5.then s7).trans b8
        have sdp : sd ≠ p := ne_of e4 hp4 (by intro z; cases z)
        have esd8 := b48 _ _ sdp e4
        have els : rs.map Prod.snd = linesOf ps := by rw [hrs, eqs]; rfl
        have hll : (rs.map Prod.snd).flatten.length ≤ 6 := by
          have e1 : (rs.map Prod.snd).Perm (ps.map fun p => srt p.2) := by rw [els]; exact sortL_perm _
          have e2 := e1.flatten.length_eq
          have e3 := flat_srt ps
          omega
        refine ⟨_, rfl, p, C, dx, _, _, rfl, ep8, TL.cl, TL.nL, by rw [lookup_putF, if_pos rfl], t, _, rfl, SqT.of lt8.1, fun nd hnd => ?_⟩
        have wt : Walk (IteT K t) rs.length (fun H => SqT K H t (rs.map fun q => V.ref q.1)) (YPair (fun i => some (.int (i : Nat))) (fun i => (rs.map fun q => V.ref q.1)[i]?)) := (walk_enumT (K := K) (a := t) (xs := rs.map fun q => V.ref q.1) |> fun z => by rw [List.length_map] at z; exact z)
        refine ⟨fun i m H' => m = rs.length - i ∧ i ≤ rs.length ∧ Same H8 H' ∧ H' nd = some (.dK (mergeK [] (numPr ((rs.map Prod.snd).take i)))), ⟨rs.length, by simp, Nat.zero_le _, same_new hnd, upd_same⟩, ?_⟩
        rintro i m H9 ⟨rfl, hi, s9, e9⟩
        have sq9 : SqT K H9 t (rs.map fun q => V.ref q.1) := SqT.of (s9 _ _ lt8.1)
        by_cases hlt : i < rs.length
        · have ha : rs[i]? = some rs[i] := List.getElem?_eq_getElem hlt
          generalize rs[i] = a at ha
          have hm := List.mem_of_getElem? ha
          refine .inr ⟨wt.goes i H9 hlt sq9, fun H' => Same H8 H' ∧ H' nd = some (.dK (mergeK [] (numPr ((rs.map Prod.snd).take (i + 1))))), fun H' q => ⟨rs.length - (i + 1), by omega, rfl, hlt, q⟩, fun x H10 y => ?_⟩
          obtain ⟨T1, x1, x2, rfl, hT1, rfl, hx1, hx2⟩ := wt.yields i H9 x H10 hlt sq9 y
          obtain rfl : V.int (i : Nat) = x1 := Option.some.inj hx1
          replace hx2 : (rs.map fun q => V.ref q.1)[i]? = some x2 := hx2
          rw [List.getElem?_map, ha] at hx2
          obtain rfl : V.ref a.1 = x2 := Option.some.inj hx2
          have sT := s9.trans (same_new (o := .tup [.int (i : Nat), .ref a.1]) hT1)
          have eT : (upd H9 T1 (.tup [.int (i : Nat), .ref a.1])) nd = some (.dK (mergeK [] (numPr ((rs.map Prod.snd).take i)))) := same_new hT1 _ _ e9
          have tT : (upd H9 T1 (.tup [.int (i : Nat), .ref a.1])) T1 = some (.tup [.int (i : Nat), .ref a.1]) := upd_same
          generalize (upd H9 T1 (.tup [.int (i : Nat), .ref a.1])) = H10 at sT eT tT ⊢
          have al : (rs.map Prod.snd)[i]? = some a.2 := by rw [List.getElem?_map, ha]; rfl
          have wa : Walk (Itt K a.1) a.2.length (fun H => SqT K H a.1 (a.2.map V.str)) (YAt (a.2.map V.str)) := (walk_tup (K := K) (a := a.1) (xs := a.2.map V.str) |> fun z => by rw [List.length_map] at z; exact z)
          have few2 : (numPr ((rs.map Prod.snd).take i)).length + a.2.length ≤ 6 := by
            have e1 := numPr_len (ls := (rs.map Prod.snd).take (i + 1))
            rw [numPr_step al, List.length_append, List.length_map] at e1
            have e2 : ((rs.map Prod.snd).take (i + 1)).flatten.length ≤ (rs.map Prod.snd).flatten.length := by
              conv => rhs; rw [← List.take_append_drop (i + 1) (rs.map Prod.snd), List.flatten_append, List.length_append]
              omega
            omega
          refine ⟨T1, _, rfl, SqT.of tT, rfl, _, _, rfl, _, _, rfl, rfl, rfl, _, rfl, a.1, rfl, ⟨_, SqT.of (sT _ _ (lt8.2 a hm))⟩, fun j n H' => n = a.2.length - j ∧ j ≤ a.2.length ∧ Same H8 H' ∧ H' nd = some (.dK (mergeK [] (numPr ((rs.map Prod.snd).take i) ++ (a.2.take j).map fun z => (Sum.inr z, V.int (i : Int))))), ⟨a.2.length, by simp, Nat.zero_le _, sT, by rw [eT]; simp⟩, ?_⟩
          rintro j n H11 ⟨rfl, hjl, s11, e11⟩
          have sq11 : SqT K H11 a.1 (a.2.map V.str) := SqT.of (s11 _ _ (lt8.2 a hm))
          by_cases hl2 : j < a.2.length
          · have hz : a.2[j]? = some a.2[j] := List.getElem?_eq_getElem hl2
            generalize a.2[j] = z at hz
            refine .inr ⟨wa.goes j H11 hl2 sq11, fun H' => Same H8 H' ∧ H' nd = some (.dK (mergeK [] (numPr ((rs.map Prod.snd).take i) ++ (a.2.take (j + 1)).map fun z => (Sum.inr z, V.int (i : Int))))), fun H' q => ⟨a.2.length - (j + 1), by omega, rfl, hl2, q⟩, fun x H12 y => ?_⟩
            obtain ⟨rfl, hx⟩ := wa.yields j H11 x H12 hl2 sq11 y
            rw [List.getElem?_map, hz] at hx
            obtain rfl : V.str z = x := Option.some.inj hx
            refine ⟨rfl, _, rfl, _, rfl, _, Sum.inr z, rfl, e11, ?_, same_upd s11 hnd, ?_⟩
            · have e1 := length_mergeK (numPr ((rs.map Prod.snd).take i) ++ (a.2.take j).map fun z => ((Sum.inr z, V.int (i : Int)) : Key × V)) []
              rw [List.length_append, List.length_map, List.length_take] at e1
              rw [sizeLine_eq]
              simp only [List.length_nil] at e1
              omega
            · rw [upd_same, List.take_add_one, hz, Option.toList_some, List.map_append, ← List.append_assoc, List.map_cons, List.map_nil, merge_snoc]
          · have e : j = a.2.length := by omega
            subst e
            rw [List.take_length, ← numPr_step al] at e11
            exact .inl ⟨wa.stops H11 sq11, s11, e11⟩
        · have e : i = rs.length := by omega
          subst e
          rw [List.take_of_length_le (by rw [List.length_map]; exact Nat.le_refl _), els] at e9
          have ep9 := s9 _ _ ep8
          refine .inl ⟨wt.stops H9 sq9, _, rfl, p, C, dx, _, rfl, ep9, TL.cl, TL.nN, (by show 3 < 1000; decide), ?_⟩
          have b9 : But p H9 (upd H9 p (.ins C dx (putF "_numbers" (.ref nd) (putF "lines" (.ref t) (putF "room" (.int (r : Int)) (putF "_sizes" (.ref sd) [])))))) := (But.refl p H9).put
          have hnp : nd ≠ p := ne_of e9 ep9 (by intro z; cases z)
          refine k _ sd nd ((bH8.then s9).trans b9) (none_back s3 hsd) (none_but bH8 ep8 hnd) (ne_of_none esd8 hnd) ⟨dx, t, rs, by rw [upd_same, lflds_put], b9 _ _ sdp (s9 _ _ esd8), b9 _ _ hnp e9, ⟨b9 _ _ tp (s9 _ _ lt8.1), fun q hq => b9 _ _ (ne_of (s9 _ _ (lt8.2 q hq)) ep9 (by intro z; cases z)) (s9 _ _ (lt8.2 q hq))⟩, els⟩
end
end Vf

set_option maxRecDepth 100000
set_option maxHeartbeats 4000000
namespace Vf
open PySem PySem.Spec PyProof.Rows L2
/-- nothing is being printed -/
abbrev Calm (A : Around) : Prop := A.guards = some []
structure FnG (P : Program) (w : World) (K : PySem.W.Frag) (mg : Str → Option Value) (base : Heap) (CX : CXT) (k : Nat) (f : Addr) (fd : FuncData) (ps : List Str) (sp : Sp) : Prop where
  len : ∀ vs H Q E, sp vs H Q E → vs.length = ps.length
  run : ∀ (A : Around) (outer : List Env) (s : Shared) (H : Hp) (args : Args) (us : List Value) (vs : List V) (Q : VK) (E : XK), Calm A → Room k A →
    Env0 P w K mg base A outer s H → BindsTo s fd args (ps.zip us) → Vals vs us → sp vs H Q E → codeAny (model P w) A (.call (.ref f) args) (CR CX outer P w H s Q E) s
section
variable {P : Program} {w : World} {K : PySem.W.Frag} {mg : Str → Option Value} {base : Heap}
theorem FnG.of {CX : CXT} {k : Nat} {f : Addr} {fd : FuncData} {ps : List Str} {sp : Sp} (F : FnOk P w K mg base CX k f fd ps sp) : FnG P w K mg base CX k f fd ps sp :=
  ⟨F.len, fun A outer s H args us vs Q E _ => F.run A outer s H args us vs Q E⟩
/-- a def by its body; both ways are told of what goes on around it -/
theorem Fun.okG {x qual : Str} {st : Stmt} {f : Addr} {fd : FuncData} {N ps : List Str} {k : Nat} {sp : Sp} (F : Fun K x qual st f fd) (S : FnScope N ps (defScope st)) (hlen : ∀ vs H Q E, sp vs H Q E → vs.length = ps.length)
    (hbody : ∀ (cdv : Value) (A : Around) (outer : List Env) (s : Shared) (H : Hp) (vs : List V) (Q : VK) (E : XK), Calm (A.deeper (envOfC qual (defScope st) s.heap.objs.size f cdv)) →
      Room k (A.deeper (envOfC qual (defScope st) s.heap.objs.size f cdv)) → sp vs H Q E →
      ∃ t, PSs (cxOf CX0 P w K mg base N qual (defScope st) f cdv A outer s H E).nox (defBody st) t ∧ t { nx := fun _ H' => Q .non H', rt := Q } (start N vs) H) :
    FnG P w K mg base CX0 (k + 1) f fd ps sp := by
  obtain ⟨oc, od, kV, doc, pm, an, cdv, ct, osl, rfl, hlook, hcode⟩ := F.ex
  refine ⟨hlen, fun A outer s H args us vs Q E hcalm hroom env bnd rel q => ?_⟩
  have below := fun b o (e : base.get? b = some o) => (env.bs b o e).1
  have inK := env.mod.kin.keeps below
  have kinds : ∀ y ∈ ps.zip us, (defScope st).names.lookup y.1 = some .local ∨ ((defScope st).names.lookup y.1 = some .cell ∧ ((cellsFrom (s.heap.objs.size + 1) (defScope st).names []).lookup y.1).isSome = true) := by
    rintro ⟨n, v⟩ hy
    exact (S.par n (List.of_mem_zip hy).1).imp id fun c => ⟨c, PySem.W.cellsFrom_some _ _ _ (.inl c)⟩
  refine codeAny_call_function hroom.depth (inK _ _ hlook) rfl S.co S.gen rfl (PySem.W.codeRec_of inK hcode) (bnd _ _ _ _ (wpAny_newFunctionEnv_cells S.kind kinds fun env' he s1 made => ?_))
  subst he
  refine ⟨(env.mod.nolimit.keeps below).keeps made.toInCall.keep, codeAny_func ?_⟩
  obtain ⟨t, hps, ht⟩ := hbody cdv A outer s H vs Q E hcalm (hroom.deeper _) q
  have inv := inv_start (CX := CX0) (E := E) S hroom.hd env (hlen _ _ _ _ q) rel made
  refine wpAny_mono (hps.nox.run [] s1 (start N vs) H _ inv ht) (fun fl s' out => ?_) fun _ _ out => out
  cases fl with
  | next =>
    obtain ⟨σ', H', J, q'⟩ := out
    exact ⟨V.non, H', J.os, J.bare, J.base, J.hok, rfl, q'⟩
  | ret u =>
    obtain ⟨v, σ', H', J, rv, q'⟩ := out
    exact ⟨v, H', J.os, J.bare, J.base, J.hok, rv, q'⟩
  | brk =>
    obtain ⟨_, _, _, no⟩ := out
    exact False.elim no
  | cont =>
    obtain ⟨_, _, _, no⟩ := out
    exact False.elim no
end
def OkG (P : Program) (w : World) (K : PySem.W.Frag) (mg : Str → Option Value) (base : Heap) (CX : CXT) (x : Str) (ps : List Str) (k : Nat) (sp : Sp) : Prop :=
  ∃ (f : Addr) (fd : FuncData), mg x = some (.ref f) ∧ PySem.W.keepIn K (.ref f) = true ∧ Binds K fd ps [] ∧ FnG P w K mg base CX k f fd ps sp
section
variable {X : Cx} {CX : CXT} {k : Nat} {f : Addr} {fd : FuncData} {ps : List Str} {sp : Sp} {ds : List Value} {dvs : List V} {E : XK} {x : Str} {p pos : Pos} {e : Expr} {es : List Expr} {t : TA}
theorem run_fnG {pins : List (Addr × Obj)} {σ : L2.St} {H : Hp} {s : Shared} {Q : VK} {us : List Value} {vs : List V} (F : FnG X.prog X.w X.K X.mg X.base CX k f fd ps sp) (hgd : Calm X.A) (hr : Room k X.A) (hb : Binds X.K fd ps ds) (hd : Vals dvs ds) (hx : Passes CX X E)
    (I : Inv X pins σ H s) (r : Vals vs us) (h : sp (vs ++ dvs) H Q E) : wpAny (model X.prog X.w) X.A (call (.ref f) us) (EP X pins σ Q) X.xe s := by
  have all := r.append hd
  have many : (us ++ ds).length = ps.length := all.length.symm.trans (F.len _ _ _ _ h)
  refine wpAny_call (codeAny_mono (F.run X.A X.stack s H ⟨us, []⟩ (us ++ ds) (vs ++ dvs) Q E hgd hr I.env0 (hb s us I.kIn many) all h) fun out s' q => ?_)
  match out, q with
  | .error e, q => exact hx pins σ H s e s' I q
  | .ok (.ret u), q => exact I.after q
  | .ok .next, q => exact (q : False).elim
  | .ok .brk, q => exact (q : False).elim
  | .ok .cont, q => exact (q : False).elim
theorem pe_fnG (G : OkG X.prog X.w X.K X.mg X.base CX x ps k sp) (hgd : Calm X.A) (hr : Room k X.A) (hg : Gl X x) (hx : Passes CX X E)
    (ha : PA X (e :: es) t) (hdb : (x == ("__debug__" : Str)) = false := by decide) (hst : starEach (e :: es) X.env = (false, eval e X.env) :: starEach es X.env := by rfl) (hpl : (backTo pos (starEach es X.env)).any (·.1) = false := by rfl) :
    PE X (.Call (.Name x p) (e :: es) [] pos) (tCall sp [] E t) := by
  obtain ⟨f, fd, hm, hk, hb, F⟩ := G
  refine ⟨fun pins s σ H Q I h => wpAny_Call_Name_kw (ld_glob I hg hm ?_ hdb)⟩
  refine PySem.W.callWith_K (h₀ := X.base) I.ok.mod.kin hk (thn (ha.run pos pins s σ H _ I h) ?_) hst hpl
  rintro us s1 ⟨vs, H1, I1, rel, q⟩
  exact ⟨I1.kIn, run_fnG F hgd hr hb .nil hx I1 rel q⟩
end
end Vf

set_option maxRecDepth 100000
set_option maxHeartbeats 4000000
namespace Vf
open PySem PySem.Spec PyProof.Rows L2
section
variable {X : Cx} {pins : List (Addr × Obj)} {σ : L2.St} {H : Hp} {s : Shared}
theorem ty_looks {x : V} {u t : Value} (M : Model) (I : Inv X pins σ H s) (rx : RelV x u) (ty : TyX X.K H x t) : PySem.W.Looks M s.heap (typeOf u) t := by
  obtain ⟨Pz, Z, p, _⟩ := kit_of I rx ty
  exact Z.ty M s.heap I.kIn p
/-- a callee that runs somewhere within what goes on -/
theorem run_at {CX : CXT} {n : Nat} {f : Addr} {fd : FuncData} {ps : List Str} {sp : Sp} {E : XK} {Q : VK} {A : Around} {vs : List V} {us : List Value} (F : FnOk X.prog X.w X.K X.mg X.base CX n f fd ps sp) (fr : A.frames = X.A.frames) (room : Room n A)
    (hb : Binds X.K fd ps []) (hx : Passes CX X E) (I : Inv X pins σ H s) (r : Vals vs us) (h : sp vs H Q E) : wpAny (model X.prog X.w) A (call (.ref f) us) (EP X pins σ Q) X.xe s := by
  have e0 : Env0 X.prog X.w X.K X.mg X.base A X.stack s H :=
    let e := I.env0
    ⟨fr.trans e.frames, e.mod, e.bs, e.bsz, e.funs, e.frf, e.hok, e.bare⟩
  have many : (us ++ []).length = ps.length := by
    rw [List.append_nil]
    exact r.length.symm.trans (F.len _ _ _ _ h)
  have bnd := hb s us I.kIn many
  rw [List.append_nil] at bnd
  refine wpAny_call (codeAny_mono (F.run A X.stack s H ⟨us, []⟩ us vs Q E room e0 bnd r h) fun out s' q => ?_)
  match out, q with
  | .error e, q => exact hx pins σ H s e s' I q
  | .ok (.ret u), q => exact I.after q
  | .ok .next, q => exact (q : False).elim
  | .ok .brk, q => exact (q : False).elim
  | .ok .cont, q => exact (q : False).elim
end
section
variable {prog : Program} {w : World} {A : Around} {E : Value → Shared → Prop} {s : Shared} {K : PySem.W.Frag} {x C f : Addr} {ox : Obj} {od : Option Obj}
theorem ifBound_ne {args : List Value} {Q : Option Value → Shared → Prop} (inK : K.In s.heap) (J : PySem.W.InstAt s.heap x ox C od) (ne : PySem.W.findIn K (.ref C) "__ne__" = some (some (.builtin "object.__ne__")))
    (h : wpAny (model prog w) A (call (.builtin "object.__ne__") (.ref x :: args)) (fun v => Q (some v)) E s) : wpAny (model prog w) A (callSpecialIfBound? (.ref x) "__ne__" args) Q E s := by
  simp only [callSpecialIfBound?, bindSpecialIfBound?]
  have told : wpAny (model prog w) A (call (.builtin "object.__ne__") ([.ref x] ++ args) >>= fun v => pure (some v)) Q E s := wpAny_bind (wpAny_mono h (fun _ _ q => wpAny_pure q) fun _ _ q => q)
  refine wpAny_holding (wpAny_bind (wpAny_bind (wpAny_bind (J.type.here ((PySem.W.looks_findIn inK ne).here (wpAny_bind (wpAny_askSetting (wpAny_ite ?_))))))))
  split
  · exact wpAny_bind (wpAny_of_eq (F.cmp_object.ne.bind _) (wpAny_pure (by exact told)))
  · exact wpAny_tryCatch (wpAny_bind (wpAny_of_eq (F.cmp_object.ne.bind _) (wpAny_pure (by exact told))))
theorem entry_ne {b : Value} {Q : Fin → Shared → Prop} (room : A.units < cLine) (inK : K.In s.heap) (J : PySem.W.InstAt s.heap x ox C od) (eq : PySem.W.findIn K (.ref C) "__eq__" = some (some (.ref f))) (isf : PySem.W.isFn K (.ref f) = true)
    (h : wpAny (model prog w) A (call (.ref f) [.ref x, b]) (fun v s' => ∃ r, v = .bool r ∧ Q (.done (.ret (.bool (!r)))) s') E s) : wpAny (model prog w) A (Builtin.«object.__ne__» ⟨[.ref x, b], []⟩) Q E s := by
  unfold Builtin.«object.__ne__»
  repeat (first
    | with_reducible refine wpAny_cRoomFor room ?_
    | (refine wpAny_bind (m := callSpecialIfBound? (.ref x) (Str.ofString "__eq__") [b])
        (PySem.W.ifBound_K inK J eq isf (wpAny_mono h (fun v s' told => by
          obtain ⟨r, rfl, q⟩ := told
          repeat (first | exact q | exact wpAny_pure q | exact wpAny_truthy_bool q | (refine wpAny_bind (m := truthy (.bool _)) (wpAny_truthy_bool ?_)) | wp_step)) fun _ _ q => q)))
    | wp_step)
theorem ne_own {b tb : Value} {Q : Value → Shared → Prop} (room : A.units + 1 < cLine) (inK : K.In s.heap) (J : PySem.W.InstAt s.heap x ox C od) (obj : PySem.W.mroIn K C (.type "object") = some true)
    (ne : PySem.W.findIn K (.ref C) "__ne__" = some (some (.builtin "object.__ne__"))) (eq : PySem.W.findIn K (.ref C) "__eq__" = some (some (.ref f))) (isf : PySem.W.isFn K (.ref f) = true)
    (hb : PySem.W.Looks (model prog w) s.heap (typeOf b) tb) (nf : PySem.W.notFirst K C tb = true)
    (h : wpAny (model prog w) A.in1 (call (.ref f) [.ref x, b]) (fun v s' => ∃ r, v = .bool r ∧ Q (.bool (!r)) s') E s) : wpAny (model prog w) A (richCompare .NotEq (.ref x) b) Q E s := by
  have asked : wpAny (model prog w) A (tryCompare (.ref x) "__ne__" b) (fun o s' => ∃ r : Bool, o = some (.bool r) ∧ Q (.bool r) s') E s := by
    unfold tryCompare
    refine wpAny_bind (ifBound_ne inK J ne (wpAny_call (codeAny_call_builtin F.cmp_object.ne.plain F.cmpEntry_ne (PySem.W.check_slot F.cmpKind_ne F.cmpSplit_ne (J.type.andThen (PySem.W.looks_mroIn inK obj)) (F.cmpArgs_ne _ _) ?_))))
    refine entry_ne (A := A.in1) room inK J eq isf (wpAny_mono h (fun v s' told => ?_) fun _ _ q => q)
    obtain ⟨r, rfl, q⟩ := told
    exact ⟨r, rfl, wpAny_pure ⟨!r, rfl, q⟩⟩
  unfold richCompare
  simp only [oneThing_ref]
  refine wpAny_holding (wpAny_bind (wpAny_cRoomFor (Nat.lt_of_succ_lt room) ?_))
  rw [cmpInfo_NotEq]
  refine wpAny_bind (J.type.here (wpAny_bind (hb.here ?_)))
  have go : wpAny (model prog w) A (tryCompare (.ref x) "__ne__" b) (fun o s' => ∃ r : Bool, o = some (.bool r) ∧ Q (.bool r) s') E s := asked
  split
  · rename_i apart
    have later : PySem.W.subIn K tb (.ref C) = some false := by
      rcases Bool.or_eq_true_iff.mp nf with e | e
      · rw [beq_iff_eq.mp e] at apart
        simp at apart
      · exact beq_iff_eq.mp e
    refine wpAny_bind ((PySem.W.looks_subIn inK later).here ?_)
    simp only [Bool.false_eq_true, if_false]
    refine wpAny_bind (wpAny_mono go (fun o s' z => ?_) fun _ _ q => q)
    obtain ⟨r, rfl, q⟩ := z
    exact wpAny_pure q
  · refine wpAny_bind (wpAny_pure ?_)
    simp only [Bool.false_eq_true, if_false]
    refine wpAny_bind (wpAny_mono go (fun o s' z => ?_) fun _ _ q => q)
    obtain ⟨r, rfl, q⟩ := z
    exact wpAny_pure q
end
/-- what the text says of a class with an own __eq__ at f -/
structure OwnC (K : PySem.W.Frag) (C f : Addr) (fd : FuncData) (ps : List Str) : Prop where
  eq : PySem.W.findIn K (.ref C) "__eq__" = some (some (.ref f))
  isf : PySem.W.isFn K (.ref f) = true
  ne : PySem.W.findIn K (.ref C) "__ne__" = some (some (.builtin "object.__ne__"))
  obj : PySem.W.mroIn K C (.type "object") = some true
  bnd : Binds K fd ps []
/-- o == y, o != y: neg -/
def rOwn (K : PySem.W.Frag) (C : Addr) (sp : Sp) (E : XK) (neg : Bool) : R2 := fun x y H Q => ∃ a dx fs t, x = .ref a ∧ H a = some (.ins C dx fs) ∧ TyX K H y t ∧ PySem.W.notFirst K C t = true ∧
  sp [.ref a, y] H (fun v H' => ∃ b, v = .bl b ∧ Q (.bl (b != neg)) H') E
section
variable {X : Cx} {CX : CXT} {n : Nat} {C f : Addr} {fd : FuncData} {ps : List Str} {sp : Sp} {E : XK}
theorem op_ownEq (F : FnOk X.prog X.w X.K X.mg X.base CX n f fd ps sp) (O : OwnC X.K C f fd ps) (hr : Room n X.A) (hx : Passes CX X E) : OpR X (compareOp .Eq) (rOwn X.K C sp E false) := by
  intro pins s σ H x y v u Q I rx ry h
  obtain ⟨a, dx, fs, t, rfl, ha, ty, nf, h⟩ := h
  obtain rfl : v = Value.ref a := rx
  obtain ⟨mA, J, _⟩ := ins_get I.hok ha
  obtain ⟨od, J, _⟩ := J.look
  obtain ⟨m, fr⟩ := I.fr
  have un := hr.un
  refine PySem.W.cmp_K (op := .Eq) (tb := t) (by omega) fr I.ok.mod.kin J (ty_looks _ I ry ty) nf O.eq O.isf ?_
  refine wpAny_mono (run_at (A := X.A) (vs := [.ref a, y]) (us := [.ref a, u]) F rfl hr O.bnd hx I (.cons rfl (.cons ry .nil)) h) (fun w' s' told => ?_) fun _ _ q => q
  obtain ⟨z, H', I', rz, b, rfl, q⟩ := told
  obtain rfl : w' = Value.bool b := rz
  refine ⟨.bl b, H', I', rfl, ?_⟩
  simpa using q
theorem op_ownNe (F : FnOk X.prog X.w X.K X.mg X.base CX n f fd ps sp) (O : OwnC X.K C f fd ps) (hr : Room (n + 1) X.A) (hx : Passes CX X E) : OpR X (compareOp .NotEq) (rOwn X.K C sp E true) := by
  intro pins s σ H x y v u Q I rx ry h
  obtain ⟨a, dx, fs, t, rfl, ha, ty, nf, h⟩ := h
  obtain rfl : v = Value.ref a := rx
  obtain ⟨mA, J, _⟩ := ins_get I.hok ha
  obtain ⟨od, J, _⟩ := J.look
  have un := hr.un
  refine ne_own (A := X.A) (by omega) I.kIn J O.obj O.ne O.eq O.isf (ty_looks _ I ry ty) nf ?_
  refine wpAny_mono (run_at (A := X.A.in1) (vs := [.ref a, y]) (us := [.ref a, u]) F rfl hr.in1 O.bnd hx I (.cons rfl (.cons ry .nil)) h) (fun w' s' told => ?_) fun _ _ q => q
  obtain ⟨z, H', I', rz, b, rfl, q⟩ := told
  obtain rfl : w' = Value.bool b := rz
  refine ⟨b, rfl, .bl (!b), H', I', rfl, ?_⟩
  have e : (b != true) = !b := by cases b <;> rfl
  rw [← e]
  exact q
end
end Vf

set_option maxRecDepth 100000
set_option maxHeartbeats 4000000
namespace Vf
open PySem PySem.Spec PyProof.Rows L2
/-- what the text says of a static method that is reached through an object -/
structure SInst (K : PySem.W.Frag) (C : Addr) (m : Str) (p g : Addr) : Prop where
  pg : PySem.W.plainGet K C Str.empty = true
  ic : PySem.W.isClsIn K C = true
  at_ : PySem.W.findIn K (.ref C) m = some (some (.ref p))
  ty : PySem.W.typeIn K (.ref p) = some (.type "staticmethod")
  get : PySem.W.specialIn K (.ref p) "__get__" = some (some (.builtin "staticmethod.__get__"))
  tk : PySem.W.takesIn K (.ref p) = some false
  cp : PySem.W.copiedNames.contains m = false
  rc : ∃ rest, PySem.W.recIn K p "staticmethod" = some (.ref g :: rest)
  kp : PySem.W.keepIn K (.ref g) = true
theorem SInst.get' {K : PySem.W.Frag} {C : Addr} {m : Str} {p g : Addr} (k : SInst K C m p g) : PySem.W.plainGet K C m = true := k.pg
def tSI (C : Addr) (m : Str) (sp : Sp) (E : XK) (ta : TE) (t : TA) : TE := fun σ H Q => ta σ H fun x H1 => ∃ a dx fs, x = .ref a ∧ H1 a = some (.ins C dx fs) ∧ fs.lookup m = none ∧ t σ H1 fun vs H2 => sp vs H2 Q E
section
variable {X : Cx} {CX : CXT} {k : Nat} {C p g : Addr} {fd : FuncData} {ps : List Str} {sp : Sp} {E : XK} {o e : Expr} {es : List Expr} {m : Str} {pos apos : Pos} {ta : TE} {t : TA} {pl : Sem Bool}
theorem pe_sinst (he : PE X o ta) (c : SInst X.K C m p g) (F : FnOk X.prog X.w X.K X.mg X.base CX k g fd ps sp) (hr : Room k X.A) (hb : Binds X.K fd ps []) (hx : Passes CX X E) (ha : PA X (e :: es) t)
    (hst : starEach (e :: es) X.env = (false, eval e X.env) :: starEach es X.env := by rfl) (hpl : (backTo pos (starEach es X.env)).any (·.1) = false := by rfl)
    (ht : eval (.Call (.Attribute o m apos) (e :: es) [] pos) X.env = (do
      let ov ← eval o X.env
      standAt apos.atName
      let (f, first) ← holding [ov] (getMethod ov m pl)
      callWith pos f first (backTo pos (starEach (e :: es) X.env)) (backToKw pos (keywordEach [] X.env))) := by rfl) :
    PE X (.Call (.Attribute o m apos) (e :: es) [] pos) (tSI C m sp E ta t) := by
  refine ⟨fun pins s σ H Q I h => PySem.W.methodCall_KW (pl := pl) (thn (he.run pins s σ H _ I h) ?_) ht⟩
  rintro u s1 ⟨x, H1, I1, rx, a, dx, fs, rfl, ea, own, q⟩
  obtain rfl : u = Value.ref a := rx
  obtain ⟨mA, O, rr, _, _, _⟩ := ins_get I1.hok ea
  have hn : mA m = none := RelO.none_of (by rw [← own]; exact rr m)
  obtain ⟨od, J, look⟩ := O.look
  obtain ⟨rest, rec⟩ := c.rc
  refine PySem.W.method_usual (r := some (.ref p)) I1.kIn J (PySem.W.plainGet_of c.get').1 (PySem.W.plainGet_of c.get').2 c.at_ ?_ ?_
  · simp only [Option.all_some, c.ty, Option.any_some]
    decide +kernel
  refine PySem.W.get_bind I1.kIn J (PySem.W.plainGet_of c.get').1 (ClX.find_cm c.ic c.at_ c.get c.tk c.cp (by rw [look m, hn])) (PySem.W.plainGet_of c.get').2 ?_
  refine wpAny_call (PySem.W.sm_get (s := { s1 with toks := s1.toks + 1 }) I1.kIn rec (PySem.W.handed_on rfl ?_))
  have I2 : Inv X pins σ H1 { s1 with toks := s1.toks + 1 } := I1.tok _
  refine PySem.W.callWith_K (h₀ := X.base) I.ok.mod.kin c.kp (thn (ha.run pos pins _ σ H1 _ I2 q) ?_) hst hpl
  rintro us s2 ⟨vs, H2, I3, rv, q2⟩
  exact ⟨I3.kIn, run_fn (dvs := []) F hr hb .nil hx I3 rv (by rw [List.append_nil]; exact q2)⟩
end
/-- str(o) -/
def rStrOwn (C : Addr) (sp : Sp) (E : XK) : List V → Hp → VK → Prop := fun xs H Q => ∃ a dx fs, xs = [.ref a] ∧ H a = some (.ins C dx fs) ∧ sp [.ref a] H (fun v H' => ∃ z, v = .str z ∧ Q (.str z) H') E
structure OwnS (K : PySem.W.Frag) (C f : Addr) (fd : FuncData) (ps : List Str) : Prop where
  st : PySem.W.findIn K (.ref C) "__str__" = some (some (.ref f))
  isf : PySem.W.isFn K (.ref f) = true
  bnd : Binds K fd ps []
theorem cr_strOwn {X : Cx} {CX : CXT} {n : Nat} {C f : Addr} {fd : FuncData} {ps : List Str} {sp : Sp} {E : XK} (F : FnOk X.prog X.w X.K X.mg X.base CX n f fd ps sp) (O : OwnS X.K C f fd ps) (hr : Room (n + 2) X.A) (hx : Passes CX X E) :
    CallR X (.type "str") (rStrOwn C sp E) := by
  intro pins s σ H xs us Q I r h
  obtain ⟨a, dx, fs, rfl, ha, h⟩ := h
  obtain ⟨u, rfl, r1⟩ := vals1 r
  obtain rfl : u = Value.ref a := r1
  obtain ⟨mA, J, _⟩ := ins_get I.hok ha
  obtain ⟨od, J, _⟩ := J.look
  have room : Room n X.A.in1.in1 := hr.in1.in1
  have un := room.un
  refine PySem.W.kso_call (by omega) I.kIn J O.st O.isf ?_
  refine wpAny_mono (run_at (A := X.A.in1.in1) (vs := [.ref a]) (us := [.ref a]) F rfl room O.bnd hx I (.cons rfl .nil) h) (fun w' s' told => ?_) fun _ _ q => q
  obtain ⟨z, H', I', rz, y, rfl, q⟩ := told
  obtain ⟨tk, rfl⟩ : ∃ tk, w' = Value.str y tk := rz
  exact ⟨.str y, H', I', ⟨tk, rfl⟩, q⟩
end Vf

set_option maxRecDepth 100000
set_option maxHeartbeats 8000000
namespace Vf
open PySem PySem.Spec PyProof.Rows L2
/-- what the text says of the class, for == and isinstance -/
structure TxtE (K : PySem.W.Frag) (C : Addr) : Prop where
  tyC : PySem.W.typeIn K (.ref C) = some (.type "type")
  clC : PySem.W.isClsIn K C = true
  ha : PySem.W.findIn K (.ref C) "__class__" = some (some (.builtin "object.__class__"))
  hn : PySem.W.specialIn K (.builtin "object.__class__") "__get__" = some (some (.builtin "getset_descriptor.__get__"))
  tk : PySem.W.takesIn K (.builtin "object.__class__") = some true
  obj : PySem.W.mroIn K C (.type "object") = some true
theorem kit_self {K : PySem.W.Frag} {C : Addr} : PySem.W.kitOne K (.ref C) (.ref C) = some true := by
  unfold PySem.W.kitOne
  rw [if_pos (by simp)]
theorem nf_self {K : PySem.W.Frag} {C : Addr} : PySem.W.notFirst K C (.ref C) = true := by simp [PySem.W.notFirst]
theorem ty_lay {K : PySem.W.Frag} {mg : Str → Option Value} {C : Addr} {H : Hp} {p sd nd : Addr} {cs : List (Str × Nat)} {r : Nat} {ls : List (List Str)} (T : TxtE K C) (TL : TxtL K mg C) (h : LayAt C H p sd nd cs r ls) : TyX K H (.ref p) (.ref C) := by
  obtain ⟨dx, t, qs, h1, _⟩ := h
  exact .base (.ins h1 TL.cl T.ha T.hn T.tk T.obj)
def linesD (ls : List (List Str)) : PyData := .tuple (ls.map lnD)
theorem plain_lines : ∀ {ls : List (List Str)}, (∀ ws ∈ ls, ∀ z ∈ ws, PyData.strOk z = true) → plainAll (ls.map lnD) = true
  | [], _ => rfl
  | ws :: ls, h => by
    simp only [List.map_cons, plainAll, Bool.and_eq_true]
    exact ⟨by simp only [lnD, plainD, plain_strs (h ws List.mem_cons_self)], plain_lines fun y hy => h y (List.mem_cons_of_mem _ hy)⟩
theorem depth_lines : ∀ ls : List (List Str), PyData.depthAll (ls.map lnD) ≤ 1
  | [] => by simp [PyData.depthAll]
  | ws :: ls => by
    have := depth_lines ls
    simp only [List.map_cons, PyData.depthAll, lnD, PyData.depth, depth_strs]
    omega
theorem dp_lines {K : PySem.W.Frag} {H : Hp} : ∀ {qs : List (Addr × List Str)}, (∀ q ∈ qs, H q.1 = some (.tup (q.2.map V.str))) → DpAll K H (qs.map fun q => V.ref q.1) ((qs.map Prod.snd).map lnD)
  | [], _ => .nil
  | q :: qs, h => .cons (.tup (SqT.of (h q List.mem_cons_self)) (dp_strs _)) (dp_lines fun z hz => h z (List.mem_cons_of_mem _ hz))
theorem LinesAt.dp {K : PySem.W.Frag} {H : Hp} {t : Addr} {qs : List (Addr × List Str)} (h : LinesAt H t qs) : Dp K H (.ref t) (linesD (qs.map Prod.snd)) := .tup (SqT.of h.1) (dp_lines h.2)
theorem shaped_lines {ls : List (List Str)} (h : ∀ ws ∈ ls, ∀ z ∈ ws, PyData.strOk z = true) : SeqAt.shaped (linesD ls) = true :=
  shaped_of (by simp only [linesD, plainD, plain_lines h]) (by have := depth_lines ls; simp only [linesD, PyData.depth]; omega)
section
variable {P : Program} {w : World} {K : PySem.W.Frag} {mg : Str → Option Value} {base : Heap}
def sp_Layout_cells (C : Addr) : Sp := fun vs H Q _ => ∃ (p sd nd : Addr) (cs : List (Str × Nat)) (r : Nat) (ls : List (List Str)), vs = [.ref p] ∧ LayAt C H p sd nd cs r ls ∧ ∀ q, H q = none → Q (.ref q) (upd H q (.dK (cellKv cs)))
theorem ok_Layout_cells {f C : Addr} {fd : FuncData} (F : Fun K "cells" "Layout.cells" s_Layout_cells f fd) (T : Txt0 K mg) (TL : TxtL K mg C) : FnOk P w K mg base CX0 1 f fd p_Layout_cells (sp_Layout_cells C) := by
  refine F.ok sc_Layout_cells (fun vs H Q E h => ?_) (fun cdv A outer s H vs Q E hr h => ?_)
  · obtain ⟨p, sd, nd, cs, r, ls, rfl, _⟩ := h
    rfl
  · obtain ⟨p, sd, nd, cs, r, ls, rfl, ⟨dx, t, qs, h1, h2, h3, h4, h5⟩, k⟩ := h
    refine ⟨_, pss_one (ps_ret (pe_callTy call_dictD (by rfl) T.dict (by decide +kernel) (pa_cons (pe_fld (pv 0) rfl) pa_nil))), ?_⟩
    exact ⟨_, rfl, p, C, dx, _, _, rfl, h1, TL.cl, TL.nS, lk_sizes, sd, cellKv cs, rfl, .inl h2, fun q hq => k q hq⟩
def sp_Layout_line_of (C : Addr) : Sp := fun vs H Q _ => ∃ (p sd nd : Addr) (cs : List (Str × Nat)) (r : Nat) (ls : List (List Str)) (z : Str) (n : Nat), vs = [.ref p, .str z] ∧ LayAt C H p sd nd cs r ls ∧ valV (mergeK [] (numPr ls)) (Sum.inr z) = some (.int (n : Int)) ∧ Q (.int (n : Int)) H
theorem ok_Layout_line_of {f C : Addr} {fd : FuncData} (F : Fun K "line_of" "Layout.line_of" s_Layout_line_of f fd) (T : Txt0 K mg) (TL : TxtL K mg C) : FnOk P w K mg base CX0 1 f fd p_Layout_line_of (sp_Layout_line_of C) := by
  refine F.ok sc_Layout_line_of (fun vs H Q E h => ?_) (fun cdv A outer s H vs Q E hr h => ?_)
  · obtain ⟨p, sd, nd, cs, r, ls, z, n, rfl, _⟩ := h
    rfl
  · obtain ⟨p, sd, nd, cs, r, ls, z, n, rfl, ⟨dx, t, qs, h1, h2, h3, h4, h5⟩, hv, k⟩ := h
    refine ⟨_, pss_cons (ps_if (PW.pt (pw_or (pt_not (pt_val (pe_callB call_isi (by rfl) T.isinstance boot_isinstance (pa_cons (pv 1) (pa_cons (pe_bltn (by rfl) T.str boot_str (v := .ty "str") rfl) pa_nil)))))
        (pw_or1 (pt_cmp (pc_dnotin (hu_of hr) (pv 1) (pe_fld (pv 0) rfl)))))) (pss_one ps_never) pss_nil)
      (pss_one (ps_ret (pe_dget (hu_of hr) (pe_fld (pv 0) rfl) (pv 1) (fun _ _ => rfl)))), ?_⟩
    have gg := DGet.k (k := Sum.inr z) h3
    rw [hv] at gg
    refine ⟨_, rfl, _, _, _, _, true, rfl, .ty _, .base (.str _), kit_ty (by decide +kernel), _, rfl, iteF ?_⟩
    refine ⟨_, rfl, _, rfl, p, C, dx, _, _, rfl, h1, TL.cl, TL.nN, lk_numbers, nd, _, rfl, gg, _, rfl, iteF ?_⟩
    exact ⟨_, rfl, p, C, dx, _, _, rfl, h1, TL.cl, TL.nN, lk_numbers, _, rfl, nd, _, rfl, gg, k⟩
/-- == of equal layouts -/
def sp_Layout_eq (C : Addr) : Sp := fun vs H Q _ => ∃ (p sd nd p2 sd2 nd2 : Addr) (cs : List (Str × Nat)) (r : Nat) (ls : List (List Str)), vs = [.ref p, .ref p2] ∧ LayAt C H p sd nd cs r ls ∧ LayAt C H p2 sd2 nd2 cs r ls ∧ (cs.map Prod.fst).Nodup ∧ (∀ ws ∈ ls, ∀ z ∈ ws, PyData.strOk z = true) ∧ Q (.bl true) H
theorem ok_Layout_eq {f C : Addr} {fd : FuncData} (F : Fun K "__eq__" "Layout.__eq__" s_Layout_eq f fd) (T : Txt0 K mg) (TL : TxtL K mg C) (TE : TxtE K C) : FnOk P w K mg base CX0 1 f fd p_Layout_eq (sp_Layout_eq C) := by
  refine F.ok sc_Layout_eq (fun vs H Q E h => ?_) (fun cdv A outer s H vs Q E hr h => ?_)
  · obtain ⟨p, sd, nd, p2, sd2, nd2, cs, r, ls, rfl, _⟩ := h
    rfl
  · obtain ⟨p, sd, nd, p2, sd2, nd2, cs, r, ls, rfl, l1, l2, ndp, ok, k⟩ := h
    have ty2 := ty_lay TE TL l2
    obtain ⟨dx, t, qs, h1, h2, h3, h4, h5⟩ := l1
    obtain ⟨dx2, t2, qs2, g1, g2, g3, g4, g5⟩ := l2
    refine ⟨_, pss_one (ps_ret (pe_and (pe_callB call_isi (by rfl) T.isinstance boot_isinstance (pa_cons (pv 1) (pa_cons (pe_glob (v := .ref C) rfl TL.mgC rfl) pa_nil)))
      (pe_and (pe_cmpR (op_eq_dictA (Nat.lt_of_le_of_lt (Nat.le_add_right _ 64) hr.units)) (pe_fld (pv 0) rfl) (pe_fld (pv 1) rfl) (nomark _))
      (pe_and (pe_cmpR op_eq (pe_fld (pv 0) rfl) (pe_fld (pv 1) rfl) (nomark _))
      (pe_one (pe_cmpR (op_eqD hr.units) (pe_fld (pv 0) rfl) (pe_fld (pv 1) rfl) (nomark _))))))), ?_⟩
    refine ⟨_, rfl, _, _, _, _, true, rfl, .own C, ty2, kit_self, true, rfl, iteT ?_⟩
    refine ⟨_, rfl, p, C, dx, _, _, rfl, h1, TL.cl, TL.nS, lk_sizes, _, rfl, p2, C, dx2, _, _, rfl, g1, TL.cl, TL.nS, lk_sizes, sd, sd2, _, _, rfl, rfl, h2, g2, rfl, fun q hq => ?_, true, rfl, iteT ?_⟩
    · refine ⟨val_mem (by rw [show (cellKv cs).map Prod.fst = (cs.map Prod.fst).map Sum.inr from cell_keys cs]; exact ndp.map _ fun _ _ h e => h (Sum.inr.inj e)) hq, ?_⟩
      obtain ⟨c, _, rfl⟩ := List.mem_map.mp hq
      rfl
    · refine ⟨_, rfl, p, C, dx, _, _, rfl, h1, TL.cl, TL.nR, lk_room, _, rfl, p2, C, dx2, _, _, rfl, g1, TL.cl, TL.nR, lk_room, rfl, ?_⟩
      rw [decide_eq_true (p := V.int (r : Int) = V.int (r : Int)) rfl]
      refine ⟨true, rfl, iteT ⟨_, rfl, p, C, dx, _, _, rfl, h1, TL.cl, TL.nL, lk_lines, _, rfl, p2, C, dx2, _, _, rfl, g1, TL.cl, TL.nL, lk_lines, linesD ls, linesD ls, h5 ▸ h4.dp, g5 ▸ g4.dp, shaped_lines ok, shaped_lines ok, ?_⟩⟩
      rw [eqv_self (by simp only [linesD, plainD, plain_lines ok])]
      exact k
end
end Vf

set_option maxRecDepth 100000
set_option maxHeartbeats 8000000
namespace Vf
open PySem PySem.Spec PyProof.Rows L2
def maxOf (cs : List (Str × Nat)) : Nat := (cs.map Prod.snd).foldl max 0
theorem le_fold : ∀ (l : List Nat) (a : Nat), a ≤ l.foldl max a ∧ (∀ x ∈ l, x ≤ l.foldl max a) ∧ (l.foldl max a = a ∨ l.foldl max a ∈ l)
  | [], a => ⟨Nat.le_refl _, (fun _ h => nomatch h), .inl rfl⟩
  | b :: l, a => by
    obtain ⟨h1, h2, h3⟩ := le_fold l (max a b)
    rw [List.foldl_cons]
    refine ⟨by omega, fun x hx => ?_, ?_⟩
    · rcases List.mem_cons.mp hx with rfl | hx
      · omega
      · exact h2 x hx
    · rcases h3 with h3 | h3
      · rw [h3]
        by_cases h : a ≤ b
        · right
          rw [Nat.max_eq_right h]
          exact List.mem_cons_self
        · left
          exact Nat.max_eq_left (by omega)
      · exact .inr (List.mem_cons_of_mem _ h3)
theorem maxOf_of {cs : List (Str × Nat)} {m : Int} (h1 : m ∈ cs.map fun p => (p.2 : Int)) (h2 : ∀ y ∈ cs.map (fun p => (p.2 : Int)), y ≤ m) : m = (maxOf cs : Int) := by
  obtain ⟨p, hp, rfl⟩ := List.mem_map.mp h1
  obtain ⟨_, g2, g3⟩ := le_fold (cs.map Prod.snd) 0
  have a := g2 p.2 (List.mem_map_of_mem hp)
  have b : maxOf cs ≤ p.2 := by
    unfold maxOf
    rcases g3 with g3 | g3
    · omega
    · obtain ⟨q, hq, e⟩ := List.mem_map.mp g3
      rw [← e]
      have := h2 (q.2 : Int) (List.mem_map_of_mem (f := fun p : Str × Nat => (p.2 : Int)) hq)
      omega
  have : maxOf cs = p.2 := Nat.le_antisymm b a
  omega
theorem size_le_max {cs : List (Str × Nat)} {p : Str × Nat} (h : p ∈ cs) : p.2 ≤ maxOf cs := (le_fold (cs.map Prod.snd) 0).2.1 p.2 (List.mem_map_of_mem h)
theorem size_of_mem {cs : List (Str × Nat)} (nd : (cs.map Prod.fst).Nodup) {p : Str × Nat} (h : p ∈ cs) : sizeOf? cs p.1 = some p.2 := by
  unfold sizeOf?
  induction cs with
  | nil => cases h
  | cons q r ih =>
    rw [List.map_cons, List.nodup_cons] at nd
    rw [List.find?_cons]
    rcases List.mem_cons.mp h with rfl | h
    · rw [decide_eq_true rfl]
      rfl
    · rw [decide_eq_false fun e => nd.1 (by rw [e]; exact List.mem_map_of_mem h)]
      exact ih nd.2 h
theorem maxOf_good {cs : List (Str × Nat)} (g : GoodCs cs) : 1 ≤ maxOf cs ∧ maxOf cs ≤ 8 := by
  constructor
  · cases e : cs with
    | nil => exact absurd e g.some
    | cons p r =>
      rw [← e]
      have hp : p ∈ cs := by rw [e]; exact List.mem_cons_self
      exact Nat.le_trans (g.size p hp).1 (size_le_max hp)
  · unfold maxOf
    rcases (le_fold (cs.map Prod.snd) 0).2.2 with h | h
    · omega
    · obtain ⟨q, hq, e⟩ := List.mem_map.mp h
      rw [← e]
      exact (g.size q hq).2
/-- the lines of own: a line for each cell -/
def ownLs (cs : List (Str × Nat)) : List (List Str) := sortL (cs.map fun p => [p.1])
theorem linesOf_own {cs : List (Str × Nat)} {ps : List (Addr × List Str)} (h : ps.map Prod.snd = cs.map fun p => [p.1]) : linesOf ps = ownLs cs := by
  unfold linesOf ownLs
  have e : (ps.map fun p => srt p.2) = (ps.map Prod.snd).map srt := by rw [List.map_map]; rfl
  rw [e, h, List.map_map]
  congr 1
  exact List.map_congr_left fun p _ => srt_one p.1
/-- lists of one text each -/
theorem ones_of {H : Hp} : ∀ (zs : List Str) (xs : List V), xs.length = zs.length → (∀ (i : Nat) (z : Str) (v : V), zs[i]? = some z → xs[i]? = some v → ∃ t, v = .ref t ∧ H t = some (.lst [.str z])) →
    ∃ ps : List (Addr × List Str), xs = ps.map (fun q => V.ref q.1) ∧ ps.map Prod.snd = zs.map (fun z => [z]) ∧ ∀ q ∈ ps, H q.1 = some (.lst (q.2.map V.str))
  | [], [], _, _ => ⟨[], rfl, rfl, (fun _ h => nomatch h)⟩
  | [], _ :: _, h, _ => by simp at h
  | _ :: _, [], h, _ => by simp at h
  | z :: zs, v :: xs, h, hp => by
    obtain ⟨t, rfl, ht⟩ := hp 0 z v rfl rfl
    obtain ⟨qs, e1, e2, e3⟩ := ones_of zs xs (by simpa using h) fun i a u h1 h2 => hp (i + 1) a u (by simpa using h1) (by simpa using h2)
    refine ⟨(t, [z]) :: qs, by rw [e1]; rfl, by rw [List.map_cons, e2]; rfl, fun q hq => ?_⟩
    rcases List.mem_cons.mp hq with rfl | hq
    · exact ht
    · exact e3 q hq
theorem ones_flat {ps : List (Addr × List Str)} {zs : List Str} (h : ps.map Prod.snd = zs.map fun z => [z]) : ps.flatMap Prod.snd = zs := by
  rw [List.flatMap_def, h]
  clear h
  induction zs with
  | nil => rfl
  | cons z r ih => rw [List.map_cons, List.flatten_cons, ih]; rfl
/-- lines with one cell each, as they are handed in -/
theorem ones_in {H : Hp} {l : Addr} {cs : List (Str × Nat)} {ps : List (Addr × List Str)} (g : GoodCs cs) (hl : H l = some (.lst (ps.map fun p => V.ref p.1))) (he : ∀ q ∈ ps, H q.1 = some (.lst (q.2.map V.str))) (h : ps.map Prod.snd = cs.map fun p => [p.1]) : InLines H l cs (maxOf cs) ps := by
  refine ⟨hl, fun q hq => ⟨he q hq, ?_⟩, ?_⟩
  · have hm : q.2 ∈ ps.map Prod.snd := List.mem_map_of_mem hq
    rw [h] at hm
    obtain ⟨p, hp, e⟩ := List.mem_map.mp hm
    have e' : [p.1] = q.2 := e
    rw [← e']
    refine ⟨by simp, ?_⟩
    have : sizeOfD cs p.1 = p.2 := by unfold sizeOfD; rw [size_of_mem g.nd hp]; rfl
    show (([p.1].map (sizeOfD cs)).sum) ≤ _
    rw [List.map_cons, List.map_nil, List.sum_cons, List.sum_nil, this]
    exact size_le_max hp
  · rw [ones_flat (zs := cs.map Prod.fst) (by rw [h, List.map_map]; rfl)]
end Vf

set_option maxRecDepth 100000
set_option maxHeartbeats 8000000
namespace Vf
open PySem PySem.Spec PyProof.Rows L2
structure TxtM (mg : Str → Option Value) : Prop where
  abs : mg "abs" = none
  range : mg "range" = none
  set : mg "set" = none
  repr : mg "repr" = none
  min : mg "min" = none
/-- the draws at p -/
def FeedAt (H : Hp) (p : Addr) : Prop := ∃ d st : Int, H p = some (.lst [.int d, .int st]) ∧ 0 ≤ d ∧ 0 ≤ st
theorem FeedAt.same {H H' : Hp} {p : Addr} (h : FeedAt H p) (s : Same H H') : FeedAt H' p := by
  obtain ⟨d, st, h1, h2, h3⟩ := h
  exact ⟨d, st, s _ _ h1, h2, h3⟩
theorem But.new {p l : Addr} {H H' : Hp} {o : HO} (b : But p H H') (h : H l = none) : But p H (upd H' l o) := fun c u hc e => by
  rw [upd_ne (ne_of_none e h)]
  exact b c u hc e
theorem FeedAt.put {H : Hp} {p l : Addr} {o : HO} (h : FeedAt H p) (hn : p ≠ l) : FeedAt (upd H l o) p := by
  obtain ⟨d, st, h1, h2, h3⟩ := h
  exact ⟨d, st, by rw [upd_ne hn]; exact h1, h2, h3⟩
theorem FeedAt.ne {H : Hp} {p l : Addr} (h : FeedAt H p) (hl : H l = none) : p ≠ l := by
  obtain ⟨d, st, h1, _⟩ := h
  exact ne_of_none h1 hl
theorem But.free {p o : Addr} {H H' : Hp} (b : But p H H') (f : FeedAt H' p) (h : H' o = none) : H o = none := by
  obtain ⟨d, st, g, _⟩ := f
  exact none_but b g h
def low (z : Str) : Prop := ∀ c ∈ z.cps.toList, 97 ≤ c ∧ c ≤ 122
theorem name_of_low {z : Str} (h : low z) (h1 : 1 ≤ z.length) (h2 : z.length ≤ 8) : isNameT z = true := by
  unfold isNameT
  rw [decide_eq_true h1, decide_eq_true h2, Bool.true_and, Bool.true_and, List.all_eq_true]
  intro c hc
  have := h c hc
  simpa using this
def sAbc : Str := "abcdefghijklmnopqrstuvwxyz"
theorem abc_low : low sAbc := fun c hc => by
  have q : (sAbc.cps.toList.all fun c => decide (97 ≤ c) && decide (c ≤ 122)) = true := by decide +kernel
  have := List.all_eq_true.mp q c hc
  simpa using this
section
variable {P : Program} {w : World} {K : PySem.W.Frag} {mg : Str → Option Value} {base : Heap}
def sp_law_feed (K : PySem.W.Frag) : Sp := fun vs H Q _ => ∃ (a : Addr) (ns : List Int) (k : Nat), vs = [.ref a, .int (k : Int)] ∧ SqL K H a (ns.map V.int) ∧ k ≤ 1000 ∧ ∀ p H', Same H H' → H p = none → FeedAt H' p → Q (.ref p) H'
theorem ok_law_feed {f : Addr} {fd : FuncData} (F : Fun K "_law_feed" "_law_feed" s_law_feed f fd) (T : Txt0 K mg) (TM : TxtM mg) : FnOk P w K mg base CX0 1 f fd p_law_feed (sp_law_feed K) := by
  refine F.ok sc_law_feed (fun vs H Q E h => ?_) (fun cdv A outer s H vs Q E hr h => ?_)
  · obtain ⟨a, ns, k, rfl, _⟩ := h
    rfl
  · obtain ⟨a, ns, k, rfl, hS, hk, q⟩ := h
    refine ⟨_, C8.pss_cut (ps_set (i := 2) sc_law_feed.nd rfl (Or.inl rfl) (pe_ifExp (pt_cmpR op_lt (pv 1) (pe_callB call_len_seq (by rfl) T.len PySem.boot_len (pa_cons (pv 0) pa_nil)) (nomark _)) (pe_ix ix_list (pv 0) (pv 1) (fun _ _ => rfl)) (pe_op op_add (pe_op op_mul pe_int (pv 1)) pe_int)))
      (pss_cons (ps_set (i := 3) sc_law_feed.nd rfl (Or.inl rfl) (pe_callB (call_max2 rfl) (by rfl) T.max (by decide +kernel) (pa_cons pe_int (pa_cons (pe_op op_sub (pe_callB call_abs (by rfl) TM.abs (by decide +kernel) (pa_cons (pv 2) pa_nil)) (pe_op op_pow pe_int pe_int)) pa_nil))))
      (pss_cons (ps_set (i := 4) sc_law_feed.nd rfl (Or.inl rfl) (pe_op op_mod (pe_callTy call_int1 (by rfl) T.int (by decide +kernel) (pa_cons
          (pe_op op_add (pe_op op_add (pe_op op_mul (pv 2) pe_int) (pe_op op_mul pe_int (pv 1))) pe_int) pa_nil)) pe_int))
      (pss_one (ps_ret (pe_lst (pa_cons (pv 3) (pa_cons (pv 4) pa_nil))))))), ?_⟩
    have z18 : (0 : Int) ≤ 18 ∧ (18 : Int) ≤ 1000000 ∧ (10 : Int).natAbs < 2 ^ 64 := by decide
    refine ⟨fun σ H' => H' = H ∧ ∃ cell : Int, σ = [some (.ref a), some (.int (k : Int)), some (.int cell), none, none], ?_, ?_⟩
    · refine ⟨_, rfl, _, rfl, a, _, rfl, .inl hS, _, _, rfl, rfl, _, rfl, ?_⟩
      rw [List.length_map]
      by_cases hkn : k < ns.length
      · rw [decide_eq_true (p := (k : Int) < (ns.length : Int)) (by omega)]
        exact iteT ⟨_, rfl, _, rfl, a, _, (k : Int), .int ns[k], rfl, rfl, hS, at_of rfl (by rw [List.getElem?_map, List.getElem?_eq_getElem hkn]; rfl), rfl, _, rfl⟩
      · rw [decide_eq_false (p := (k : Int) < (ns.length : Int)) (by omega)]
        exact iteF ⟨_, rfl, 83, k, rfl, rfl, .inl (by decide), _, _, rfl, rfl, rfl, _, rfl⟩
    · rintro σ H' ⟨rfl, cell, rfl⟩
      refine ⟨_, rfl, cell, rfl, 10, 18, rfl, rfl, z18, _, _, rfl, rfl, _, _, rfl, ?_⟩
      refine ⟨_, rfl, cell, 6364136223846793005, rfl, rfl, .inr (by decide), _, rfl, 7919, k, rfl, rfl, .inl (by decide), _, _, rfl, rfl, _, _, rfl, rfl, .inl ⟨_, rfl, _, _, rfl, rfl, (by show (0 : Int) < 2305843009213693951; decide), ?_⟩⟩
      refine ⟨_, rfl, _, rfl, (by show 2 ≤ sizeLine; decide), fun p hp => q p _ (same_new hp) hp ⟨_, _, upd_same, ?_, Int.emod_nonneg _ (by decide)⟩⟩
      split <;> omega
def sp_law_take : Sp := fun vs H Q _ => ∃ (p : Addr) (n : Nat), vs = [.ref p, .int (n : Int)] ∧ FeedAt H p ∧ 1 ≤ n ∧ n ≤ 1000000 ∧ ∀ (r : Nat) H', r < n → But p H H' → FeedAt H' p → Q (.int (r : Int)) H'
theorem ok_law_take {f : Addr} {fd : FuncData} (F : Fun K "_law_take" "_law_take" s_law_take f fd) (T : Txt0 K mg) : FnOk P w K mg base CX0 1 f fd p_law_take sp_law_take := by
  refine F.ok sc_law_take (fun vs H Q E h => ?_) (fun cdv A outer s H vs Q E hr h => ?_)
  · obtain ⟨p, n, rfl, _⟩ := h
    rfl
  · obtain ⟨p, n, rfl, ⟨d, st, hp, hd, hst⟩, h1, h2, k⟩ := h
    refine ⟨_, pss_cons (ps_if (pt_cmpR op_gt (pe_ix ix_list (pv 0) pe_int (fun _ _ => rfl)) pe_int (nomark _))
        (pss_cons (ps_set (i := 2) sc_law_take.nd rfl (Or.inl rfl) (pe_op op_mod (pe_callTy call_int1 (by rfl) T.int (by decide +kernel) (pa_cons (pe_ix ix_list (pv 0) pe_int (fun _ _ => rfl)) pa_nil)) (pv 1)))
        (pss_cons (ps_asg (pe_op op_fdivN (pe_ix ix_list (pv 0) pe_int (fun _ _ => rfl)) (pv 1)) (pg_sub (pv 0) pe_int set_list))
        (pss_one (ps_ret (pv 2))))) pss_nil)
      (pss_cons (ps_asg (pe_op op_mod (pe_callTy call_int1 (by rfl) T.int (by decide +kernel) (pa_cons (pe_op op_add (pe_op op_mul (pe_ix ix_list (pv 0) pe_int (fun _ _ => rfl)) pe_int) pe_int) pa_nil)) pe_int) (pg_sub (pv 0) pe_int set_list))
      (pss_one (ps_ret (pe_op op_mod (pe_callTy call_int1 (by rfl) T.int (by decide +kernel) (pa_cons (pe_op op_fdivN (pe_ix ix_list (pv 0) pe_int (fun _ _ => rfl)) pe_int) pa_nil)) (pv 1))))), ?_⟩
    refine ⟨_, rfl, p, _, (0 : Int), .int d, rfl, rfl, SqL.of hp, at_of (j := 0) rfl rfl, _, _, rfl, rfl, _, rfl, ?_⟩
    by_cases hd0 : 0 < d
    · rw [decide_eq_true hd0]
      refine iteT ⟨_, rfl, p, _, (0 : Int), .int d, rfl, rfl, SqL.of hp, at_of (j := 0) rfl rfl, .inl ⟨d, rfl, _, rfl, d, n, rfl, rfl, (by omega), ?_⟩⟩
      refine ⟨_, rfl, p, _, (0 : Int), .int d, rfl, rfl, SqL.of hp, at_of (j := 0) rfl rfl, _, rfl, d, n, rfl, rfl, ⟨by omega, by omega⟩, _, rfl, ?_⟩
      refine ⟨p, _, (0 : Int), 0, rfl, rfl, hp, rfl, ?_⟩
      refine ⟨_, rfl, ?_⟩
      have hm1 := Int.emod_nonneg d (b := (n : Int)) (by omega)
      have hm2 := Int.emod_lt_of_pos d (b := (n : Int)) (by omega)
      obtain ⟨r, hr⟩ : ∃ r : Nat, d % (n : Int) = (r : Int) := ⟨(d % (n : Int)).toNat, by omega⟩
      show Q (.int (d % (n : Int))) _
      rw [hr]
      refine k r _ (by omega) (But.refl p H).put ⟨d.fdiv n, st, upd_same, ?_, hst⟩
      exact Int.fdiv_nonneg hd (by omega)
    · rw [decide_eq_false hd0]
      refine iteF ⟨_, rfl, p, _, (1 : Int), .int st, rfl, rfl, SqL.of hp, at_of (j := 1) rfl rfl, _, _, rfl, rfl, .inr (by decide), _, _, rfl, rfl,
        .inl ⟨_, rfl, _, _, rfl, rfl, (by show (0 : Int) < 2305843009213693951; decide), _, rfl, p, _, (1 : Int), 1, rfl, rfl, hp, rfl, ?_⟩⟩
      have hp2 : (upd H p (.lst ([V.int d, V.int st].set 1 (.int ((st * 6364136223846793005 + 1442695040888963407) % 2305843009213693951))))) p = some (.lst [.int d, .int ((st * 6364136223846793005 + 1442695040888963407) % 2305843009213693951)]) := upd_same
      have hst2 := Int.emod_nonneg (st * 6364136223846793005 + 1442695040888963407) (by decide : (2305843009213693951 : Int) ≠ 0)
      refine ⟨_, rfl, p, _, (1 : Int), .int ((st * 6364136223846793005 + 1442695040888963407) % 2305843009213693951), rfl, rfl, SqL.of hp2, at_of (j := 1) rfl rfl, ((st * 6364136223846793005 + 1442695040888963407) % 2305843009213693951), 65536, rfl, rfl, ⟨by decide, by decide⟩, .inl ⟨_, rfl, _, rfl, _, (n : Int), rfl, rfl, by omega, ?_⟩⟩
      have hm1 := Int.emod_nonneg (((st * 6364136223846793005 + 1442695040888963407) % 2305843009213693951).fdiv 65536) (b := (n : Int)) (by omega)
      have hm2 := Int.emod_lt_of_pos (((st * 6364136223846793005 + 1442695040888963407) % 2305843009213693951).fdiv 65536) (b := (n : Int)) (by omega)
      obtain ⟨r, hr⟩ : ∃ r : Nat, (((st * 6364136223846793005 + 1442695040888963407) % 2305843009213693951).fdiv 65536) % (n : Int) = (r : Int) := ⟨((((st * 6364136223846793005 + 1442695040888963407) % 2305843009213693951).fdiv 65536) % (n : Int)).toNat, by omega⟩
      show Q (.int ((((st * 6364136223846793005 + 1442695040888963407) % 2305843009213693951).fdiv 65536) % (n : Int))) _
      rw [hr]
      exact k r _ (by omega) (But.refl p H).put ⟨d, ((st * 6364136223846793005 + 1442695040888963407) % 2305843009213693951), hp2, hd, hst2⟩
def sp_law_pick (K : PySem.W.Frag) : Sp := fun vs H Q _ => ∃ (p c : Addr) (xs : List V), vs = [.ref p, .ref c] ∧ FeedAt H p ∧ p ≠ c ∧ SqL K H c xs ∧ 1 ≤ xs.length ∧ xs.length ≤ 1000000 ∧
  ∀ (r : Nat) (v : V) H', xs[r]? = some v → But p H H' → FeedAt H' p → Q v H'
theorem SqL.but {K : PySem.W.Frag} {H H' : Hp} {a p : Addr} {xs : List V} (h : SqL K H a xs) (s : But p H H') (hn : a ≠ p) : SqL K H' a xs := by
  rcases h with (h | ⟨o, h⟩) | h
  · exact .inl (.inl (s _ _ hn h))
  · exact .inl (.inr ⟨o, s _ _ hn h⟩)
  · exact .inr h
theorem ok_law_pick {f : Addr} {fd : FuncData} (F : Fun K "_law_pick" "_law_pick" s_law_pick f fd) (T0 : Txt0 K mg) (GT : OkF P w K mg base CX0 "_law_take" p_law_take 1 sp_law_take) : FnOk P w K mg base CX0 2 f fd p_law_pick (sp_law_pick K) := by
  refine F.ok sc_law_pick (fun vs H Q E h => ?_) (fun cdv A outer s H vs Q E hr h => ?_)
  · obtain ⟨p, c, xs, rfl, _⟩ := h
    rfl
  · obtain ⟨p, c, xs, rfl, hp, hpc, hS, h1, h2, k⟩ := h
    refine ⟨_, pss_one (ps_ret (pe_ix ix_list (pv 1) (pe_fn GT hr rfl pass0 (pa_cons (pv 0) (pa_cons (pe_callB call_len_seq (by rfl) T0.len PySem.boot_len (pa_cons (pv 1) pa_nil)) pa_nil))) (fun _ _ => rfl))), ?_⟩
    refine ⟨_, rfl, _, rfl, _, rfl, c, xs, rfl, .inl hS, p, xs.length, rfl, hp, h1, h2, fun r H2 hr2 hb hp2 => ?_⟩
    exact ⟨c, xs, (r : Int), xs[r], rfl, rfl, Vf.SqL.but hS hb hpc.symm, at_of rfl (List.getElem?_eq_getElem hr2), k r _ H2 (List.getElem?_eq_getElem hr2) hb hp2⟩
end
end Vf

set_option maxRecDepth 100000
set_option maxHeartbeats 4000000
namespace Vf
open PySem PySem.Spec PyProof.Rows L2
section
variable {prog : Program} {w : World} {A : Around} {E : Value → Shared → Prop} {s : Shared}
theorem hint_text {x : Str} {t : Tok} {Q : Bool → Shared → Prop} (h : Q false s) : wpAny (model prog w) A (Builtin.List.listLengthHint (.str x t)) Q E s := by
  have hT : s.TypeIs (.str x t) "str" := typeIs_str _ _ _
  unfold Builtin.List.listLengthHint
  refine wpAny_bind (wpAny_specialOf hT PySem.F.slot_str_len.lookup ?_)
  generalize hid : ("str.__len__" : String) = id0
  wp_delta
  rw [show splitId id0 = some ("str", "__len__") from by subst hid; decide +kernel]
  subst hid
  refine wpAny_bind (wpAny_isInstance (T := "str") (b := true) hT (by rw [isSubtype_type]; kernel_rfl) (wpAny_ite_split (fun hab => absurd hab (by decide)) fun _ => ?_))
  exact wpAny_ite_split (fun _ => wpAny_bind (wpAny_typeOf hT (wpAny_pure h))) fun hab => absurd (by decide +kernel) hab
set_option maxHeartbeats 8000000 in
theorem call_list_text {x : Str} {t : Tok} {Q : Value → Shared → Prop} (hh : A.handled = none) (hn : x.cps.size ≤ sizeLine)
    (hQ : ∀ h' tk acc' c', (∀ b o, s.heap.get? b = some o → h'.get? b = some o) → h'.get? s.heap.objs.size = some { cls := .type "list", dict := none, data := .seq acc' c', slots := #[] } →
      ItemsOf (SignAt x) acc' x.cps.size → Q (.ref s.heap.objs.size) { s with heap := h', toks := tk }) :
    wpAny (model prog w) A (call (.type "list") [.str x t]) Q E s := by
  refine callType_codes (Q₁ := fun obj s₁ => obj = .ref s.heap.objs.size ∧ s₁ = { s with heap := s.heap.push { cls := .type "list", data := .seq #[] } }) PySem.F.called_list
    (PySem.F.typeCall_list_1 _) PySem.F.entry_list_init (code_list_new _ ⟨rfl, rfl⟩) ?_
  rintro _ _ ⟨rfl, rfl⟩
  have hS : (s.heap.push { cls := .type "list", data := .seq #[] }).get? s.heap.objs.size = some { cls := .type "list", data := .seq #[] } := Heap.get?_push_size _ rfl
  refine ⟨⟨_, hS, rfl⟩, PySem.F.args_list_init_2 _ _, ?_⟩
  generalize hS0 : s.heap.objs.size = S at hS ⊢
  show wpAny _ _ (do let old ← Builtin.List.listItems (.ref S); Builtin.List.listUpdate (.ref S) (fun _ => #[]); letGo old.toList.reverse; Builtin.List.listExtendWith (.ref S) (.str x t) .none) _ _ _
  refine wpAny_bind (show wpAny _ _ (Builtin.List.listItems (.ref S)) _ _ _ from ?_)
  unfold Builtin.List.listItems
  refine wpAny_bind (wpAny_seqItems hS rfl (wpAny_pure ?_))
  refine wpAny_bind (show wpAny _ _ (updateSeq S (fun _ => #[])) _ _ _ from wpAny_updateSeq hS rfl ?_)
  have hS2 := Heap.get?_update_self (Obj.mapSeq (fun _ => (#[] : Array Value))) hS rfl
  refine wpAny_bind (wpAny_letGo ?_)
  unfold Builtin.List.listExtendWith
  refine wpAny_bind (wpAny_typeOf (T := "str") (typeIs_str _ _ _) ?_)
  have n1 : Builtin.List.listSameRef (.ref S) (.str x t) = false := rfl
  have n2 : (Value.type "str" == Value.type "list") = false := by decide
  have n3 : (Value.type "str" == Value.type "tuple") = false := by decide
  simp only [n1, n2, n3, Bool.or_false, Bool.false_eq_true, if_false]
  refine wpAny_bind (wpAny_pyIter_str fun oI St W st => ?_)
  refine wpAny_bind (wpAny_holding (hint_text ?_))
  refine wpAny_ite_split (fun hab => absurd hab (by decide +kernel)) fun _ => wpAny_pure ⟨plainId_quiet PySem.F.plain_extend_loop _, ?_⟩
  have hS3 := Heap.get?_push_of_some oI hS2
  have W1 := (W A.in1.in1 hh).toS
  refine codeAny_extend_loopS W1 hn S ?_ .none x.cps.size 0 _ #[] _ rfl (Nat.zero_le _) st hS3 (ItemsOf.nil _) ?_
  · exact fun hm => absurd (Heap.lt_size hS2) (by rw [← List.mem_singleton.mp hm]; exact Nat.lt_irrefl _)
  · intro s' acc' c' hm hS' hacc
    rw [Moved.eq_with hm]
    suffices hk : ∀ b o, s.heap.get? b = some o → s'.heap.get? b = some o by
      have q := hQ s'.heap s'.toks acc' c' hk (by rw [hS0]; exact hS') hacc
      rw [hS0] at q
      exact ⟨rfl, q⟩
    intro b o e
    have hbS : b ≠ S := Nat.ne_of_lt (hS0 ▸ Heap.lt_size e)
    have e2 : (s.heap.push { cls := .type "list", data := .seq #[] }).get? b = some o := Heap.get?_push_of_some _ e
    have e3 := (Heap.get?_update_other (s.heap.push { cls := .type "list", data := .seq #[] }) (Obj.mapSeq (fun _ => (#[] : Array Value))) (Ne.symm hbS)).trans e2
    refine hm.heap b o (fun hmem => ?_) (Heap.get?_push_of_some oI e3)
    rcases List.mem_cons.mp hmem with e' | hmem
    · exact hbS e'
    · exact absurd (Heap.lt_size e3) (by rw [List.mem_singleton.mp hmem]; exact Nat.lt_irrefl _)
end
/-- list(text) -/
def rListS : List V → Hp → VK → Prop := fun vs H Q => ∃ z : Str, vs = [.str z] ∧ z.length ≤ sizeLine ∧ ∀ p, H p = none → Q (.ref p) (upd H p (.lst (z.cps.toList.map fun c => V.str ⟨#[c]⟩)))
theorem cr_listS {X : Cx} (hc : X.calm = true) : CallR X (.type "list") rListS := by
  intro pins s σ H vs us Q I r h
  obtain ⟨z, rfl, hz, q⟩ := h
  obtain ⟨u, rfl, t, rfl⟩ := vals1 r
  refine call_list_text (I.ok.hd hc) hz fun h' tk acc' c' k hS hacc => ?_
  refine ⟨.ref _, _, I.laid (t' := tk) k (Nat.le_refl _) (o := .lst (z.cps.toList.map fun c => V.str ⟨#[c]⟩)) ⟨by rw [List.length_map]; simpa [Str.length] using hz, acc'.toList, c', ?_, by rw [Array.toArray_toList]; exact hS⟩, rfl, q _ (I.hok.fresh (Nat.le_refl _))⟩
  refine vals_of_at (by rw [List.length_map, Array.length_toList, Array.length_toList, hacc.1]) fun j x w h1 h2 => ?_
  rw [Array.getElem?_toList] at h2
  obtain ⟨c, u, hcj, rfl⟩ := hacc.2 j w h2
  rw [List.getElem?_map, Array.getElem?_toList, hcj] at h1
  obtain rfl : V.str ⟨#[c]⟩ = x := Option.some.inj h1
  exact ⟨u, rfl⟩
end Vf

set_option maxRecDepth 100000
set_option maxHeartbeats 8000000
namespace Vf
open PySem PySem.Spec PyProof.Rows L2
section
variable {P : Program} {w : World} {K : PySem.W.Frag} {mg : Str → Option Value} {base : Heap}
def sp_law_word : Sp := fun vs H Q _ => ∃ p : Addr, vs = [.ref p] ∧ FeedAt H p ∧ ∀ (z : Str) H', But p H H' → FeedAt H' p → isNameT z = true → Q (.str z) H'
theorem ok_law_word {f : Addr} {fd : FuncData} (F : Fun K "_law_word" "_law_word" s_law_word f fd) (T : Txt0 K mg) (TM : TxtM mg) (GP : OkF P w K mg base CX0 "_law_pick" p_law_pick 2 (sp_law_pick K)) :
    FnOk P w K mg base CX0 3 f fd p_law_word sp_law_word := by
  refine F.ok sc_law_word (fun vs H Q E h => ?_) (fun cdv A outer s H vs Q E hr h => ?_)
  · obtain ⟨p, rfl, _⟩ := h
    rfl
  · obtain ⟨p, rfl, hp, k⟩ := h
    refine ⟨_, pss_cons (ps_set (i := 1) sc_law_word.nd rfl (Or.inl rfl) pe_str)
      (pss_cons (ps_for PassesOwn.never rfl (pi_range1 (by rfl) TM.range (pa_cons (pe_fn GP hr rfl pass0 (pa_cons (pv 0) (pa_cons (pe_lst (pa_cons pe_int (pa_cons pe_int (pa_cons pe_int (pa_cons pe_int (pa_cons pe_int pa_nil)))))) pa_nil))) pa_nil)) (pg_name (i := 2) sc_law_word.nd rfl (Or.inl rfl))
        (pss_one (ps_set (i := 1) sc_law_word.nd rfl (Or.inl rfl) (pe_op op_add_str (pv 1) (pe_fn GP hr rfl pass0 (pa_cons (pv 0) (pa_cons (pe_callTy (cr_listS rfl) (by rfl) T.list (by decide +kernel) (pa_cons pe_str pa_nil)) pa_nil)))))))
      (pss_one (ps_ret (pv 1)))), ?_⟩
    refine ⟨_, rfl, (by show 5 ≤ sizeLine; decide), fun c hc => ⟨p, c, _, rfl, hp.put (hp.ne hc), hp.ne hc, SqL.of upd_same, by decide, by decide, fun r v H1 hv b1 f1 => ?_⟩⟩
    have bH1 : But p H H1 := ((But.refl p H).new hc).trans b1
    obtain ⟨n, rfl, hn1, hn2⟩ : ∃ n : Nat, v = .int (n : Int) ∧ 1 ≤ n ∧ n ≤ 8 := by
      have hv' : ([V.int 1, .int 1, .int 2, .int 3, .int 8] : List V)[r]? = some v := hv
      match r, hv' with
      | 0, e => exact ⟨1, (Option.some.inj e).symm, by decide, by decide⟩
      | 1, e => exact ⟨1, (Option.some.inj e).symm, by decide, by decide⟩
      | 2, e => exact ⟨2, (Option.some.inj e).symm, by decide, by decide⟩
      | 3, e => exact ⟨3, (Option.some.inj e).symm, by decide, by decide⟩
      | 4, e => exact ⟨8, (Option.some.inj e).symm, by decide, by decide⟩
      | r + 5, e => exact absurd e (by simp)
    refine ⟨_, rfl, by omega, by omega, ?_⟩
    rw [show ((n : Int)).toNat = n from Int.toNat_natCast n]
    refine for_it (walk_range (lo := 0) (n := n)) (fun i σ H' => ∃ (v2 : Option V) (z : Str), σ = [some (.ref p), some (.str z), v2] ∧ But p H H' ∧ FeedAt H' p ∧ z.length = i ∧ low z) ⟨_, Str.ofString "", rfl, bH1, f1, rfl, fun c hc => by cases hc⟩ (fun _ _ _ _ _ => trivial) ?_ ?_
    · rintro i x σ H5 H6 hj ⟨v2, z, rfl, b5, f5, hz, hlow⟩ ⟨rfl, rfl⟩
      refine ⟨_, rfl, _, rfl, sAbc, rfl, (by decide +kernel), fun q hq => ⟨p, q, _, rfl, f5.put (f5.ne hq), f5.ne hq, SqL.of upd_same, ?_, ?_, fun r v H7 hv b7 f7 => ?_⟩⟩
      · rw [List.length_map]
        decide +kernel
      · rw [List.length_map]
        decide +kernel
      · rw [List.getElem?_map] at hv
        cases hc : sAbc.cps.toList[r]? with
        | none => rw [hc] at hv; cases hv
        | some c =>
          rw [hc] at hv
          obtain rfl : V.str ⟨#[c]⟩ = v := Option.some.inj hv
          refine ⟨z, ⟨#[c]⟩, rfl, rfl, ?_, _, z ++ ⟨#[c]⟩, rfl, (b5.new (b5.free f5 hq)).trans b7, f7, ?_, ?_⟩
          · rw [hz, sizeLine_eq]
            show i + 1 ≤ _
            omega
          · rw [Str.length_append, hz]
            rfl
          · intro d hd
            have hd' : d ∈ z.cps.toList ++ [c] := by
              have e : (z ++ (⟨#[c]⟩ : Str)).cps.toList = z.cps.toList ++ [c] := by
                show (z.cps ++ #[c]).toList = _
                simp
              rw [← e]
              exact hd
            rcases List.mem_append.mp hd' with h | h
            · exact hlow d h
            · rw [List.mem_singleton.mp h]
              exact abc_low c (List.mem_of_getElem? hc)
    · rintro σ H5 ⟨v2, z, rfl, b5, f5, hz, hlow⟩
      exact ⟨_, rfl, k z H5 b5 f5 (name_of_low hlow (by omega) (by omega))⟩
end
end Vf

set_option maxRecDepth 100000
set_option maxHeartbeats 4000000
namespace Vf
open PySem PySem.Spec PyProof.Rows L2
/-- what is met, once each -/
def dd1 (l : List Str) (z : Str) : List Str := if z ∈ l then l else z :: l
def dd (ws : List Str) : List Str := ws.foldl dd1 []
theorem dd_snoc (ws : List Str) (z : Str) : dd (ws ++ [z]) = dd1 (dd ws) z := by
  unfold dd
  rw [List.foldl_append]
  rfl
theorem dd_go : ∀ (ws l : List Str), l.Nodup → (ws.foldl dd1 l).Nodup ∧ (∀ z, z ∈ ws.foldl dd1 l ↔ z ∈ l ∨ z ∈ ws) ∧ (ws.foldl dd1 l).length ≤ l.length + ws.length
  | [], l, h => ⟨h, fun z => by simp, by simp⟩
  | x :: ws, l, h => by
    rw [List.foldl_cons]
    by_cases hx : x ∈ l
    · have e : dd1 l x = l := if_pos hx
      rw [e]
      obtain ⟨h1, h2, h3⟩ := dd_go ws l h
      refine ⟨h1, fun z => ?_, by rw [List.length_cons]; omega⟩
      rw [h2, List.mem_cons]
      constructor
      · rintro (q | q)
        · exact .inl q
        · exact .inr (.inr q)
      · rintro (q | rfl | q)
        · exact .inl q
        · exact .inl hx
        · exact .inr q
    · have e : dd1 l x = x :: l := if_neg hx
      rw [e]
      obtain ⟨h1, h2, h3⟩ := dd_go ws (x :: l) (List.nodup_cons.mpr ⟨hx, h⟩)
      refine ⟨h1, fun z => ?_, by rw [List.length_cons] at h3 ⊢; omega⟩
      rw [h2, List.mem_cons, List.mem_cons]
      constructor
      · rintro ((q | q) | q)
        · exact .inr (.inl q)
        · exact .inl q
        · exact .inr (.inr q)
      · rintro (q | q | q)
        · exact .inl (.inr q)
        · exact .inl (.inl q)
        · exact .inr q
theorem dd_nodup (ws : List Str) : (dd ws).Nodup := (dd_go ws [] List.nodup_nil).1
theorem dd_mem (ws : List Str) (z : Str) : z ∈ dd ws ↔ z ∈ ws := by
  have := (dd_go ws [] List.nodup_nil).2.1 z
  unfold dd
  rw [this]
  simp
theorem dd_len (ws : List Str) : (dd ws).length ≤ ws.length := by
  have := (dd_go ws [] List.nodup_nil).2.2
  unfold dd
  simpa using this
/-- a set that holds the texts l -/
def SetRS (P : Program) (w : World) (h : Heap) (a : Addr) (l : List Str) : Prop := ∃ D, h.get? a = some (Froz.sObj "set" D) ∧ Froz.TxOk P w D l ∧ Ris D.2.2.place.toList ∧ (w.params.followText "set-order" = true ∨ D.2.2.led = true)
theorem SetRS.at {P : Program} {w : World} {h h' : Heap} {a : Addr} {l : List Str} (R : SetRS P w h a l) (k : ∀ o, h.get? a = some o → h'.get? a = some o) : SetRS P w h' a l := by
  obtain ⟨D, ho, r⟩ := R
  exact ⟨D, k _ ho, r⟩
theorem tail_ris {ep : Nat} {es1 : Array (Int × Value)} {t2 : SetTable} {d : Bool} (r : Ris t2.place.toList) : Ris (Froz.tailTx ep es1 t2 d).2.2.place.toList ∧ (Froz.tailTx ep es1 t2 d).2.2.led = t2.led := by
  unfold Froz.tailTx
  split
  · exact ⟨relayAll_ris _ _ _, relayAll_led _ _ _⟩
  · exact ⟨r, rfl⟩
theorem add_ris {D : Froz.SD} {h : Int} {v : Value} (r : Ris D.2.2.place.toList) : Ris (Froz.addTx h v D).2.2.place.toList ∧ (Froz.addTx h v D).2.2.led = D.2.2.led := by
  unfold Froz.addTx
  have r1 := layNew_ris D.2.2 D.1 h v r
  have l1 := layNew_led D.2.2 D.1 h v
  split
  · obtain ⟨a, b⟩ := tail_ris (ep := D.2.1) (es1 := (layNew D.2.2 D.1 h v).1) (d := (layNew D.2.2 D.1 h v).2.2.1) (t2 := { (layNew D.2.2 D.1 h v).2.1 with plain := false }) r1
    exact ⟨a, b.trans l1⟩
  · obtain ⟨a, b⟩ := tail_ris (ep := D.2.1) (es1 := (layNew D.2.2 D.1 h v).1) (d := (layNew D.2.2 D.1 h v).2.2.1) r1
    exact ⟨a, b.trans l1⟩
section
variable {P : Program} {w : World} {A : Around} {E : Value → Shared → Prop} {s : Shared}
/-- a text that is there already -/
theorem add_y {a : Addr} {D : Froz.SD} {l : List Str} {k : Str} {u : Tok} {Q : Bool → Shared → Prop} (ho : s.heap.get? a = some (Froz.sObj "set" D)) (F : Froz.TxOk P w D l) (hk : k ∈ l) (hb : l.length < scanBound)
    (h : Q false s) : wpAny (model P w) A (setAddHashed a (.str k u) (hashStr w k)) Q E s := by
  obtain ⟨es, ep, t⟩ := D
  have hd : (Froz.sObj "set" (es, ep, t)).data = .set es ep t := rfl
  have hf : t.fits es.size = true := F.fit
  have hel : ElemsOf (strKind P w) es.toList := F.el
  have hsz : es.size = l.length := F.sz
  have hb0 : es.size < scanBound := by omega
  have hkey : (strKind P w).is k (.str k u) = true := Froz.is_str k u
  unfold setAddHashed setAddHashedIn
  refine wpAny_holding (wpAny_bind (wpAny_setState_of ho hd hf ?_))
  dsimp only
  rw [byScan_of rfl hb0 hel]
  simp only [↓reduceIte]
  unfold setAddByScan
  refine wpAny_bind ?_
  refine wpAny_bind (wpAny_rule ?_)
  refine wpAny_bind (wpAny_setScan_of (knd := strKind P w) (k := k) hkey ho hd hf hel ?_)
  cases hr : List.findIdx? (fun e => (strKind P w).is k e.2) es.toList with
  | some j =>
    dsimp only
    exact wpAny_pure (wpAny_pure h)
  | none =>
    obtain ⟨e, he, hp⟩ := (F.mem k).mp hk
    have := List.findIdx?_eq_none_iff.mp hr e he
    rw [hp] at this
    cases this
theorem set_update_strs {I : Addr} {fp wr : List Addr} {G : Array GenState → Array GenState → Prop} {n : Nat} {Pv : Nat → Value → Prop} {St : Nat → Shared → Prop} {R : Result → Shared → Prop}
    (W : WalksS P w A.in1 I fp wr G n Pv St) (S : Addr) (hSf : S ∉ fp) (ws : List Str) (hn : n = ws.length) (hb : ws.length + 1 < scanBound) (hval : ∀ i v, Pv i v → ∃ z t, ws[i]? = some z ∧ v = .str z t) :
    ∀ (k i : Nat) (s : Shared), n - i = k → i ≤ n → St i s → SetRS P w s.heap S (dd (ws.take i)) →
      (∀ s', Moved (S :: wr) G s s' → SetRS P w s'.heap S (dd ws) → R (.ok (.ret .none)) s') →
      codeAny (model P w) A (.builtin "set.update.loop" ⟨[.ref S, .ref I], []⟩) R s := by
  have hSw : S ∉ wr := fun h => hSf (W.sub _ h)
  have hsub : ∀ b ∈ wr, b ∈ S :: wr := fun b hb => List.mem_cons_of_mem _ hb
  intro k
  induction k with
  | zero =>
    intro i s hk hi hst hS hR
    have hin : i = n := by omega
    subst hin
    refine codeAny_builtin F.entry_set_update_loop ?_
    rw [Around.under_plainId F.plain_set_update_loop _]
    show wpAny _ A.in1 (pyNext (.ref I) >>= _) _ _ s
    refine wpAny_bind (W.done s _ _ hst fun s' hm => ?_)
    show wpAny _ A.in1 (ret Value.none) _ _ s'
    refine wpAny_pure (hR s' (hm.mono hsub) ?_)
    rw [hn, List.take_length] at hS
    exact hS.at fun o e => hm.heap S _ hSw e
  | succ k ih =>
    intro i s hk hi hst hS hR
    have hlt : i < n := by omega
    refine codeAny_builtin F.entry_set_update_loop ?_
    rw [Around.under_plainId F.plain_set_update_loop _]
    show wpAny _ A.in1 (pyNext (.ref I) >>= _) _ _ s
    refine wpAny_bind (W.item i s _ _ hlt hst fun v s' hP hst' hm => ?_)
    obtain ⟨z, t, hz, rfl⟩ := hval i v hP
    obtain ⟨D, ho, FF, r, ld⟩ : SetRS P w s'.heap S (dd (ws.take i)) := hS.at fun o e => hm.heap S _ hSw e
    have hlen : (dd (ws.take i)).length ≤ i := Nat.le_trans (dd_len _) (by rw [List.length_take]; omega)
    have hdd : dd (ws.take (i + 1)) = dd1 (dd (ws.take i)) z := by
      rw [List.take_add_one, hz, Option.toList_some, dd_snoc]
    show wpAny _ A.in1 (holding [Value.str z t] (setAdd S (.str z t)) >>= _) _ _ s'
    refine wpAny_bind (wpAny_holding ?_)
    unfold setAdd
    refine wpAny_holding ?_
    refine wpAny_bind ((strKind P w).pyHash (k := z) (Froz.is_str z t) ?_)
    by_cases hin : z ∈ dd (ws.take i)
    · refine add_y (s := { s' with toks := s'.toks + 1 }) ho FF hin (by omega) ?_
      refine wpAny_pure ⟨plainId_quiet F.plain_set_update_loop _, ih (i + 1) _ (by omega) hlt (W.frame _ s' _ _ hst' (Nat.le_succ _) fun b hb o e => e) ?_ fun s'' hm'' hS'' => ?_⟩
      · rw [hdd, show dd1 (dd (ws.take i)) z = _ from if_pos hin]
        exact ⟨D, ho, FF, r, ld⟩
      · exact hR s'' (Moved.trans W.gtrans ((hm.mono hsub).then_heap (Nat.le_succ _) fun b o hb e => e) hm'') hS''
    · refine Froz.add_x (s := { s' with toks := s'.toks + 1 }) ho FF hin (by omega) ?_
      have oth : ∀ b o, b ≠ S → s'.heap.get? b = some o → (s'.heap.update S (fun _ => Froz.sObj "set" (Froz.addTx (hashStr w z) (.str z t) D))).get? b = some o := fun b o hb e => (Heap.get?_update_other _ _ (Ne.symm hb)).trans e
      refine wpAny_pure ⟨plainId_quiet F.plain_set_update_loop _, ih (i + 1) _ (by omega) hlt (W.frame _ s' _ _ hst' (Nat.le_succ _) fun b hb o e => oth b o (fun h : b = S => hSf (by rw [← h]; exact hb)) e) ?_ fun s'' hm'' hS'' => ?_⟩
      · rw [hdd, show dd1 (dd (ws.take i)) z = _ from if_neg hin]
        obtain ⟨r2, l2⟩ := add_ris (h := hashStr w z) (v := .str z t) r
        exact ⟨_, Froz.get_upd _ ho rfl, Froz.add_ok t FF, r2, by rw [l2]; exact ld⟩
      · exact hR s'' (Moved.trans W.gtrans ((hm.mono hsub).then_heap (Nat.le_succ _) fun b o hb e => oth b o (fun h : b = S => hb (by rw [h]; exact List.mem_cons_self)) e) hm'') hS''
theorem strs_ix : ∀ {us : List Value} {xs : List Str}, StrsAre us xs → ∀ (i : Nat) (v : Value), us[i]? = some v → ∃ t, v = .str (xs.getD i Str.empty) t
  | _, _, .nil, i, v, h => by simp at h
  | _, _, .cons n t hr, 0, v, h => by
    have e := Option.some.inj h
    exact ⟨t, e.symm⟩
  | _, _, .cons n t hr, i + 1, v, h => strs_ix hr i v h
theorem set_init_listS {l S : Addr} {items : Array Value} {h0 : Heap} (ns : List Str) (hh : A.handled = none) (h0S : S = s.heap.objs.size) (hl : s.heap.IsList l items)
    (hit : StrsAre items.toList ns) (hb : ns.length + 1 < scanBound) (e0 : h0 = s.heap.push (emptySet w)) {R : Result → Shared → Prop}
    (h : ∀ h' tk, SetRS P w h' S (dd ns) → (∀ b o, s.heap.get? b = some o → h'.get? b = some o) →
      R (.ok (.ret .none)) { s with heap := h', toks := tk }) :
    codeAny (model P w) A (.call (.builtin "set.__init__") ⟨[.ref S, .ref l], []⟩) R { s with heap := h0 } := by
  subst h0S e0
  have hS : (s.heap.push (emptySet w)).get? s.heap.objs.size = some (emptySet w) := Heap.get?_push_size _ rfl
  have hT : Shared.TypeIs { s with heap := s.heap.push (emptySet w) } (.ref s.heap.objs.size) "set" := ⟨_, hS, rfl⟩
  refine codeAny_call_builtin F.called_set.init.plain F.entry_set_init (check_set_init_1 hT ?_)
  have hisz : items.size = ns.length := by
    have q := StrsAre.length hit
    rwa [Array.length_toList] at q
  obtain ⟨ol, hol, hcl, nl, hdl⟩ := hl
  obtain ⟨ocls, odict, odata, oslots⟩ := ol
  dsimp only at hcl hdl
  subst hcl hdl
  have hol' : (s.heap.push (emptySet w)).get? l = some { cls := .type "list", dict := odict, data := .seq items nl, slots := oslots } :=
    Heap.get?_push_of_some _ hol
  have hsls := F.sub_list_set
  have hslf := F.sub_list_frozenset
  have hne : (Value.type "list" == Value.type "dict") = false := by decide
  have hl1 : (s.heap.push (emptySet w)).IsList l items := ⟨_, hol', rfl, nl, rfl⟩
  unfold Builtin.«set.__init__» noKeywords Builtin.Frozenset.updateFrom
  generalize hPI : pyIter = PI
  wp_walk
  subst hPI
  refine wpAny_pyIter_list hl1 (wpAny_bind (wpAny_runValue ?_))
  have hlS : l < s.heap.objs.size := Heap.lt_size hol
  have hh3 : A.in1.in1.handled = none := hh
  have hsz : (s.heap.push (emptySet w)).objs.size = s.heap.objs.size + 1 := Heap.size_push ..
  have hlt : ∀ b : Addr, b < s.heap.objs.size → b ∉ [s.heap.objs.size, s.heap.objs.size + 1] := fun b hb hm => by
    rcases List.mem_cons.mp hm with e | e
    · exact Nat.lt_irrefl _ (e ▸ hb)
    · exact Nat.lt_irrefl _ (Nat.lt_succ_of_lt (List.mem_singleton.mp e ▸ hb))
  have hneI : l ≠ (s.heap.push (emptySet w)).objs.size := by rw [hsz]; exact Nat.ne_of_lt (Nat.lt_succ_of_lt hlS)
  have hSf : s.heap.objs.size ∉ [(s.heap.push (emptySet w)).objs.size, l] := by
    rw [hsz]
    simp only [List.mem_cons, List.not_mem_nil, or_false, not_or]
    exact ⟨Nat.ne_of_lt (Nat.lt_succ_self _), Nat.ne_of_gt hlS⟩
  have hcur : (s.heap.push (emptySet w)).IsList l items := hl1
  have hval : ∀ (i : Nat) (v : Value), items[i]? = some v → ∃ k t, ns[i]? = some k ∧ v = .str k t := fun i v hv => by
    have hi : i < items.size := (Array.getElem?_eq_some_iff.mp hv).1
    obtain ⟨t, ht⟩ := strs_ix hit i v (by rw [Array.getElem?_toList]; exact hv)
    have hi2 : i < ns.length := by omega
    refine ⟨ns[i], t, List.getElem?_eq_getElem hi2, ?_⟩
    rw [ht, List.getD_eq_getElem?_getD, List.getElem?_eq_getElem hi2]
    rfl
  refine set_update_strs ((Walks.list hh3 _ l hneI items).toS) s.heap.objs.size hSf ns hisz hb hval (items.size - 0) 0 _ (by omega) (Nat.zero_le _)
    ?hSt ?hS0 ?hR
  case hSt => exact ⟨⟨_, Heap.get?_push_size _ rfl, rfl, rfl⟩, (hl1.push _)⟩
  case hS0 =>
    refine ⟨(#[], 0, .fresh 0 0 (!w.params.followText "set-order")), Heap.get?_push_of_some _ hS, Froz.TxOk.nil (by rfl), List.Pairwise.nil, ?_⟩
    show _ ∨ (!w.params.followText "set-order") = true
    cases w.params.followText "set-order"
    · exact .inr rfl
    · exact .inl rfl
  case hR =>
    rintro ⟨h', g2, d', tk', os'⟩ hm hR
    obtain rfl : g2 = s.gens := hm.gens
    obtain rfl : d' = s.drawn := hm.drawn
    obtain rfl : os' = s.os := hm.os
    refine wpAny_pure (wpAny_pure (h h' tk' hR fun b o e => ?_))
    refine hm.heap b o ?_ (Heap.get?_push_of_some _ (Heap.get?_push_of_some _ e))
    rw [hsz]
    exact hlt b (Heap.lt_size e)
theorem call_set_listS {l : Addr} {items : Array Value} (ns : List Str) {Q : Value → Shared → Prop} (hh : A.handled = none) (hl : s.heap.IsList l items)
    (hit : StrsAre items.toList ns) (hb : ns.length + 1 < scanBound)
    (h : ∀ h' tk, SetRS P w h' s.heap.objs.size (dd ns) → (∀ b o, s.heap.get? b = some o → h'.get? b = some o) →
      Q (.ref s.heap.objs.size) { s with heap := h', toks := tk }) :
    wpAny (model P w) A (call (.type "set") [.ref l]) Q E s := by
  have hT : Shared.TypeIs { s with heap := s.heap.push (emptySet w) } (.ref s.heap.objs.size) "set" := ⟨_, Heap.get?_push_size _ rfl, rfl⟩
  obtain ⟨c, tl, hmro⟩ := F.called_set.mro; have hmade := F.called_set.made; have hsub := F.called_set.sub
  have h1 := F.called_set.notType; have h2 := F.called_set.canCreate; have hct := F.typeCall_set_1 (.ref l)
  have hli := F.called_set.init.lookup; have hbi := F.called_set.init.bind (.ref s.heap.objs.size)
  refine wpAny_call (codeAny_of_tree (show wpAny _ _ (callAny (.type "set") _) _ _ _ from
    wpAny_pure ⟨Code.quiet_builtin _ (by decide +kernel), codeAny_builtin F.entry_type_call ?_⟩))
  rw [Around.under_plain (weight_type_call_type "set" [.ref l] []) rfl]
  repeat (any_goals (first | assumption | wp_step))
  refine codeAny_mono (code_set_led1 (.ref l) (E := E) (Q₁ := fun obj s₁ => obj = .ref s.heap.objs.size ∧ s₁ = { s with heap := s.heap.push (emptySet w) }) ⟨rfl, rfl⟩) ?_
  rintro (e | (_ | _ | _ | obj)) s₁ hr
  · exact hr
  · exact hr.elim
  · exact hr.elim
  · exact hr.elim
  obtain ⟨rfl, rfl⟩ := hr
  repeat (any_goals (first | assumption | wp_step))
  refine codeAny_mono (set_init_listS (s := s) (R := wants (fun r s₂ => r = .none ∧ Q (.ref s.heap.objs.size) s₂) E) ns (by exact hh) rfl hl hit hb rfl
    fun h' tk hR hk => ⟨rfl, h h' tk hR hk⟩) ?_
  rintro (e | (_ | _ | _ | r)) s₂ hr
  · exact hr
  · exact hr.elim
  · exact hr.elim
  · exact hr.elim
  obtain ⟨rfl, hq⟩ := hr
  repeat (any_goals (first | assumption | wp_step))
end
/-- the set at p holds the texts l -/
def SetSO (P : Program) (w : World) (a : Addr) (l : List Str) : HO := .ext fun h => SetRS P w h a l
def rSetS (K : PySem.W.Frag) (P : Program) (w : World) : List V → Hp → VK → Prop := fun vs H Q => ∃ (a : Addr) (ws : List Str), vs = [.ref a] ∧ SqL K H a (ws.map V.str) ∧ ws.length + 1 < scanBound ∧ ∀ p : Addr, H p = none → Q (.ref p) (upd H p (SetSO P w p (dd ws)))
theorem cr_setS {X : Cx} (hc : X.calm = true) : CallR X (.type "set") (rSetS X.K X.prog X.w) := by
  intro pins s σ H vs us Q I r h
  obtain ⟨a, ws, rfl, hS, hb, q⟩ := h
  obtain ⟨its, rv, pl, hz⟩ := I.list hS
  rw [Vals.ref1 r]
  refine call_set_listS ws (I.ok.hd hc) pl.isList (by simpa using rv.strs) hb fun h' tk R k => ?_
  refine ⟨.ref _, _, I.laid (t' := tk) k (Nat.le_refl _) (show ObjOk X.prog X.w _ _ _ (SetSO X.prog X.w s.heap.objs.size (dd ws)) from ⟨R, ?_, fun h1 h2 p k => SetRS.at p k⟩), rfl, q _ (I.hok.fresh (Nat.le_refl _))⟩
  obtain ⟨D, ho, _⟩ := R
  exact ⟨_, ho⟩
def rSortedSS (P : Program) (w : World) : List V → Hp → VK → Prop := fun vs H Q => ∃ (a : Addr) (l : List Str), vs = [.ref a] ∧ H a = some (SetSO P w a l) ∧ l.Nodup ∧ l.length < 64 ∧ ∀ p : Addr, H p = none → Q (.ref p) (upd H p (.lst ((srt l).map V.str)))
theorem strs_of_vals : ∀ (vs : List Value), (∀ v ∈ vs, ∃ k t, v = Value.str k t) → ∃ ks, StrsAre vs ks ∧ ∀ k ∈ ks, ∃ t, Value.str k t ∈ vs
  | [], _ => ⟨[], .nil, fun _ h => nomatch h⟩
  | v :: vs, h => by
    obtain ⟨k, t, rfl⟩ := h v List.mem_cons_self
    obtain ⟨ks, h1, h2⟩ := strs_of_vals vs fun u hu => h u (List.mem_cons_of_mem _ hu)
    refine ⟨k :: ks, .cons k t h1, fun z hz => ?_⟩
    rcases List.mem_cons.mp hz with rfl | hz
    · exact ⟨t, List.mem_cons_self⟩
    · obtain ⟨u, hu⟩ := h2 z hz
      exact ⟨u, List.mem_cons_of_mem _ hu⟩
theorem mem_strs : ∀ {vs : List Value} {ks : List Str}, StrsAre vs ks → ∀ {k : Str} {t : Tok}, Value.str k t ∈ vs → k ∈ ks
  | _, _, .nil, _, _, h => by cases h
  | _, _, .cons n u hr, k, t, h => by
    rcases List.mem_cons.mp h with e | h
    · cases e
      exact List.mem_cons_self
    · exact List.mem_cons_of_mem _ (mem_strs hr h)
theorem perm_of : ∀ {l m : List Str}, l.Nodup → m.length = l.length → (∀ z ∈ l, z ∈ m) → m.Perm l
  | [], m, _, hl, _ => by rw [List.length_eq_zero_iff.mp hl]
  | a :: r, m, nd, hl, h => by
    have hm := h a List.mem_cons_self
    have nd' := List.nodup_cons.mp nd
    have e := List.length_erase_of_mem hm
    rw [List.length_cons] at hl
    have ih := perm_of (l := r) (m := m.erase a) nd'.2 (by omega) fun z hz => (List.mem_erase_of_ne fun q : z = a => nd'.1 (by rw [← q]; exact hz)).mpr (h z (List.mem_cons_of_mem _ hz))
    exact (List.perm_cons_erase hm).trans (ih.cons a)
theorem cr_sortedSS {X : Cx} (hc : X.calm = true) : CallR X (.builtin "sorted") (rSortedSS X.prog X.w) := by
  intro pins s σ H vs us Q I r h
  obtain ⟨a, l, rfl, ha, nd, h64, q⟩ := h
  obtain ⟨⟨es, ep, t⟩, ho, FF, rs, ld⟩ : SetRS X.prog X.w s.heap a l := (I.hok a _ ha).1
  rw [Vals.ref1 r]
  have hsz : es.size = l.length := FF.sz
  have hb : es.size < scanBound := by
    have : 64 ≤ scanBound := by decide
    omega
  refine Calls.call_function_entry kind_sorted plain_sorted entry_sorted (args_sorted1 _) ?_
  unfold Builtin.«sorted»
  refine wpAny_bind (m := checkCount "sorted" 1 1 _) (wpAny_pure ?_)
  refine wpAny_bind (collect_set (A := X.A.in1) (I.ok.hd hc) ⟨_, ho, rfl, rfl⟩ FF.fit hb rs ld fun s1 out k1 hz g1 o1 pm => ?_)
  have hol : out.length = l.length := by rw [pm.length_eq, List.length_map, Array.length_toList, hsz]
  obtain ⟨ks, hk1, hk2⟩ := strs_of_vals out fun v hv => by
    obtain ⟨e, he, rfl⟩ := List.mem_map.mp (pm.mem_iff.mp hv)
    obtain ⟨⟨k, hk, _⟩, _⟩ := FF.el e he
    obtain ⟨tk, e1⟩ := Value.isStrOf_shape (x := k) (v := e.2) hk
    exact ⟨k, tk, e1⟩
  have pk : ks.Perm l := perm_of nd (by rw [← hk1.length, hol]) fun z hz => by
    obtain ⟨e, he, hp⟩ := (FF.mem z).mp hz
    obtain ⟨tk, e1⟩ := Value.isStrOf_shape (x := z) (v := e.2) hp
    exact mem_strs hk1 (t := tk) (pm.mem_iff.mpr (List.mem_map.mpr ⟨e, he, e1⟩))
  refine wpAny_bind (wpAny_newList ?_ (by rw [hol, sizeLine_eq]; omega))
  have hoL : (s1.heap.push (seqObj "list" out.toArray 0)).get? s1.heap.objs.size = some (seqObj "list" out.toArray 0) := Heap.get?_push_size _ rfl
  refine wpAny_bind (wpAny_holding (wpAny_call_entry slot_list_sort ⟨_, hoL, rfl⟩ entry_list_sort
    (list_sort_treeK strKind_oneLt hoL hk1.keysOf (fun v₁ v₂ rest e => keyKind_strs (by rw [← e]; exact hk1)) (by rw [hol]; exact h64) fun st' hp hs => ⟨_, rfl, ?_⟩) (args_list_sort _)))
  obtain ⟨ys, g2, g3, g4⟩ := sorted_out_str hk1 hp hs
  obtain ⟨c, hc'⟩ := sortedHeap_at (vs := out) (out := (arrOf st').map (·.2)) hoL
  have ey : ys = srt l := srt_of (g3.trans pk) g4
  subst ey
  have hlen : ((srt l).map V.str).length ≤ sizeLine := by rw [List.length_map, (srt_perm l).length_eq, sizeLine_eq]; omega
  have keep : ∀ b o, s.heap.get? b = some o → (sortedHeap (s1.heap.push (seqObj "list" out.toArray 0)) s1.heap.objs.size out ((arrOf st').map (·.2))).get? b = some o := fun b u e => by
    have q := k1 b u e
    have hlt := Heap.lt_size q
    rw [sortedHeap_old (Nat.ne_of_lt hlt) (by rw [size_push']; exact Nat.lt_succ_of_lt hlt)]
    exact Heap.get?_push_of_some _ q
  have hn : H s1.heap.objs.size = none := I.hok.fresh hz
  have J : Inv X pins σ (upd H s1.heap.objs.size (.lst ((srt l).map V.str))) { s with heap := sortedHeap (s1.heap.push (seqObj "list" out.toArray 0)) s1.heap.objs.size out ((arrOf st').map (·.2)), gens := s1.gens, drawn := s1.drawn, toks := s1.toks } :=
    I.call (ch := []) (Un.laid keep hz hn) (I.hok.laid keep hz ⟨hlen, ((arrOf st').map (·.2)).toList, c, vals_of_strs g2, by rw [Array.toArray_toList]; exact hc'⟩) (by rw [g1]; exact I.bare) (fun _ z => nomatch z)
  have e : ({ s1 with heap := sortedHeap (s1.heap.push (seqObj "list" out.toArray 0)) s1.heap.objs.size out ((arrOf st').map (·.2)) } : Shared) = { s with heap := sortedHeap (s1.heap.push (seqObj "list" out.toArray 0)) s1.heap.objs.size out ((arrOf st').map (·.2)), gens := s1.gens, drawn := s1.drawn, toks := s1.toks } := by
    cases s1
    cases s
    cases o1
    rfl
  refine wpAny_pure ⟨_, rfl, .ref s1.heap.objs.size, _, ?_, rfl, q _ hn⟩
  rw [← e] at J
  exact J
end Vf

set_option maxRecDepth 100000
set_option maxHeartbeats 4000000
namespace Vf
open PySem PySem.Spec PyProof.Rows L2
def stepped (k : Int) (xs : List V) : List V := if k = 1 then xs else xs.reverse
def tStepL (K : PySem.W.Frag) (te : TE) (ts : TO) : TE := fun σ H Q => te σ H fun x H1 => ts σ H1 fun o H2 => ∃ (a : Addr) (xs : List V) (k : Int), x = .ref a ∧ SqL K H2 a xs ∧ o = some k ∧ (k = 1 ∨ k = -1) ∧
  ∀ p, H2 p = none → Q (.ref p) (upd H2 p (.lst (stepped k xs)))
theorem cut_all (xs : List V) : cutV xs none none = xs := by
  unfold cutV
  rw [HT.sIx_none, HT.sIx_none, List.drop_zero, Nat.sub_zero, List.take_length]
theorem pe_stepL {X : Cx} {e st : Expr} {te : TE} {ts : TO} {p3 pos : Pos} (he : PE X e te) (hst : PO X (some st) ts)
    (htl : ∀ a i, subscripted (.Slice none none (some st) p3) false (.ref a) (.ref i) = operate [.ref a, .ref i] (getItem (.ref a) (.ref i)) := by intro _ _; with_unfolding_all rfl) :
    PE X (.Subscript e (.Slice none none (some st) p3) pos) (tStepL X.K te ts) := by
  refine ⟨fun pins s σ H Q I h => Subscript_ (thn (he.run pins s σ H _ I h) ?_)⟩
  rintro v s1 ⟨x, H1, I1, r1, q1⟩
  refine wpAny_Slice (thn (po_none.run pins s1 σ H1 (fun o H2 => o = none ∧ H2 = H1) I1 ⟨rfl, rfl⟩) ?_)
  rintro vl s2 ⟨l, H2, I2, pl, rfl, rfl⟩
  refine thn (po_none.run pins s2 σ H2 (fun o H3 => o = none ∧ H3 = H2) I2 ⟨rfl, rfl⟩) ?_
  rintro vu s3 ⟨u, H3, I3, pu, rfl, rfl⟩
  refine thn (hst.run pins s3 σ H3 _ I3 q1) ?_
  rintro vs s4 ⟨o, H4, I4, ps, a, xs, k, rfl, hx, rfl, hk, q⟩
  cases r1
  have I5 : Inv X pins σ H4 { s4 with heap := s4.heap.push { cls := .type "slice", data := .fields #[vl, vu, vs] } } := I4.kept (t' := s4.toks) fun b ob q => Heap.get?_push_of_some _ q
  obtain ⟨its, r, ht, hz⟩ := I5.list hx
  have hlen := r.length
  show wpAny (model X.prog X.w) X.A (subscriptTail e (.Slice none none (some st) p3) (.ref a) (.ref s4.heap.objs.size)) (EP X pins σ Q) X.xe { s4 with heap := s4.heap.push { cls := .type "slice", data := .fields #[vl, vu, vs] } }
  refine tail_any (ops := [.ref a, .ref s4.heap.objs.size]) ht.isList.typeIs PySem.slot_list_getitem.lookup ?_ (htl _ _)
  refine wpAny_getItem_list_slice ht.isList (Heap.IsSliceOf.new _ vl vu vs) pl pu ps (by rcases hk with rfl | rfl <;> decide) ?_ (by rw [List.size_toArray]; omega)
  rcases hk with rfl | rfl
  · have e1 : slicePick its.toArray none none (some 1) = slicePick its.toArray none none none := rfl
    have e2 := cut_all xs
    rw [e1, slicePick_cut, ← hlen]
    refine ⟨.ref _, _, I5.laid (t' := s4.toks) (o := .lst (stepped 1 xs)) (fun b ob q => Heap.get?_push_of_some _ q) (Nat.le_refl _) ?_, rfl, q _ (I5.hok.fresh (Nat.le_refl _))⟩
    have r' := (r.drop (HT.sIx xs.length 0 none)).take (HT.sIx xs.length xs.length none - HT.sIx xs.length 0 none)
    rw [show (xs.drop (HT.sIx xs.length 0 none)).take (HT.sIx xs.length xs.length none - HT.sIx xs.length 0 none) = xs from cut_all xs] at r'
    refine ⟨hz, _, 0, ?_, Heap.get?_push_size _ rfl⟩
    exact r'
  · rw [PySem.W.krv_pick]
    refine ⟨.ref _, _, I5.laid (t' := s4.toks) (o := .lst (stepped (-1) xs)) (fun b ob q => Heap.get?_push_of_some _ q) (Nat.le_refl _) ?_, rfl, q _ (I5.hok.fresh (Nat.le_refl _))⟩
    exact ⟨(by show xs.reverse.length ≤ _; rw [List.length_reverse]; exact hz), _, 0, r.reverse, Heap.get?_push_size _ rfl⟩
end Vf

set_option maxRecDepth 100000
set_option maxHeartbeats 8000000
namespace Vf
open PySem PySem.Spec PyProof.Rows L2
section
variable {J : It} {n : Nat} {G : Hp → Prop} {Y : Nat → Hp → V → Hp → Prop}
/-- [.. for .. in ..] whose turns draw -/
theorem lc_feed {α : Type} (l : List α) (w : Walk J l.length G Y) {g : TG} {te : TE} {vs : List Nat} {σ : L2.St} {H1 : Hp} {D p : Addr} {Qd : Hp → Prop} (hD : H1 D = none) (f1 : FeedAt H1 p) (Pr : α → V → Hp → Prop) (hn : l.length < 1000000) (hG : ∀ H, But p H1 H → G H)
    (hs : ∀ i a x H H', l[i]? = some a → But p H1 H → FeedAt H p → (∃ acc, H D = some (.lst acc)) → Y i H x H' → ∀ R : V → Hp → Prop, (∀ v H4, But p H H4 → FeedAt H4 p → (∀ H5, (∀ b o, b ≠ p → b ≠ D → H4 b = some o → H5 b = some o) → Pr a v H5) → R v H4) →
      g x (wipe σ vs) H' fun σ2 H2 => wipe σ2 vs = wipe σ vs ∧ te σ2 H2 R)
    (hd : ∀ H (xs : List V), But p H1 H → FeedAt H p → H D = some (.lst xs) → xs.length = l.length → (∀ (i : Nat) (a : α) (v : V), l[i]? = some a → xs[i]? = some v → Pr a v H) → Qd H) :
    ∃ W : Nat → Nat → Hp → Prop, (∃ m, W 0 m (upd H1 D (.lst []))) ∧ ∀ i m H, W i m H →
      (J.stop i H ∧ Qd H) ∨ (J.go i H ∧ ∃ Nx : Hp → Prop, (∀ H', Nx H' → ∃ m', m' < m ∧ W (i + 1) m' H') ∧ ∀ x H', J.yld i H x H' → g x (wipe σ vs) H' fun σ2 H2 => wipe σ2 vs = wipe σ vs ∧ tYes σ2 H2 fun b H3 =>
        if b = true then te σ2 H3 fun y H4 => ∃ acc, H4 D = some (.lst acc) ∧ acc.length < sizeLine ∧ Nx (upd H4 D (.lst (acc ++ [y]))) else Nx H3) := by
  have hpD : p ≠ D := f1.ne hD
  refine ⟨fun i m H => m = l.length - i ∧ i ≤ l.length ∧ But p H1 H ∧ FeedAt H p ∧ ∃ xs : List V, H D = some (.lst xs) ∧ xs.length = i ∧ ∀ (j : Nat) (a : α) (v : V), l[j]? = some a → xs[j]? = some v → ∀ H5, (∀ b o, b ≠ p → b ≠ D → H b = some o → H5 b = some o) → Pr a v H5, ⟨l.length, by simp, Nat.zero_le _, (But.refl p H1).new hD, f1.put hpD, [], upd_same, rfl, fun j a v _ h => by simp at h⟩, ?_⟩
  rintro i m H ⟨rfl, hi, s, f, xs, hH, hxs, hp⟩
  by_cases hlt : i < l.length
  · have ha : l[i]? = some l[i] := List.getElem?_eq_getElem hlt
    refine .inr ⟨w.goes i H hlt (hG H s), fun H' => But p H1 H' ∧ FeedAt H' p ∧ ∃ xs : List V, H' D = some (.lst xs) ∧ xs.length = i + 1 ∧ ∀ (j : Nat) (a : α) (v : V), l[j]? = some a → xs[j]? = some v → ∀ H5, (∀ b o, b ≠ p → b ≠ D → H' b = some o → H5 b = some o) → Pr a v H5, fun H' q => ⟨l.length - (i + 1), by omega, rfl, hlt, q⟩, fun x H' y => ?_⟩
    have q := hs i _ x H H' ha s f ⟨xs, hH⟩ (w.yields i H x H' hlt (hG H s) y) (fun y H4 => ∃ acc, H4 D = some (.lst acc) ∧ acc.length < sizeLine ∧ But p H1 (upd H4 D (.lst (acc ++ [y]))) ∧ FeedAt (upd H4 D (.lst (acc ++ [y]))) p ∧ ∃ xs : List V, (upd H4 D (.lst (acc ++ [y]))) D = some (.lst xs) ∧ xs.length = i + 1 ∧ ∀ (j : Nat) (a : α) (v : V), l[j]? = some a → xs[j]? = some v → ∀ H5, (∀ b o, b ≠ p → b ≠ D → (upd H4 D (.lst (acc ++ [y]))) b = some o → H5 b = some o) → Pr a v H5) ?_
    · exact q
    intro v H4 s4 f4 hv
    have e4 := s4 D _ hpD.symm hH
    refine ⟨xs, e4, by rw [sizeLine_eq]; omega, (s.trans s4).new hD, f4.put hpD, xs ++ [v], upd_same, by rw [List.length_append, hxs]; rfl, fun j a u hj hu H5 b5 => ?_⟩
    have b4 : ∀ b o, b ≠ p → b ≠ D → H4 b = some o → H5 b = some o := fun b o h1 h2 e => b5 b o h1 h2 (by rw [upd_ne h2]; exact e)
    by_cases hj' : j < xs.length
    · rw [List.getElem?_append_left hj'] at hu
      exact hp j a u hj hu H5 fun b o h1 h2 e => b4 b o h1 h2 (s4 b o h1 e)
    · have ej : j = xs.length := by
        have := (List.getElem?_eq_some_iff.mp hu).1
        rw [List.length_append, List.length_singleton] at this
        omega
      subst ej
      rw [List.getElem?_append_right (Nat.le_refl _), Nat.sub_self] at hu
      obtain rfl : v = u := by simpa using hu
      rw [hxs, ha] at hj
      obtain rfl : l[i] = a := Option.some.inj hj
      exact hv H5 b4
  · have e : i = l.length := by omega
    subst e
    exact .inl ⟨w.stops H (hG H s), hd H xs s f hH hxs fun j a v h1 h2 => hp j a v h1 h2 H fun b o _ _ e => e⟩
end
theorem strs_all : ∀ (xs : List V), (∀ v ∈ xs, ∃ z, v = V.str z ∧ isNameT z = true) → ∃ ws : List Str, xs = ws.map V.str ∧ ∀ z ∈ ws, isNameT z = true
  | [], _ => ⟨[], rfl, (fun _ h => nomatch h)⟩
  | v :: xs, h => by
    obtain ⟨z, rfl, hz⟩ := h v List.mem_cons_self
    obtain ⟨ws, rfl, hw⟩ := strs_all xs fun u hu => h u (List.mem_cons_of_mem _ hu)
    refine ⟨z :: ws, rfl, fun y hy => ?_⟩
    rcases List.mem_cons.mp hy with rfl | hy
    · exact hz
    · exact hw y hy
theorem trip_of {H : Hp} : ∀ (zs : List Str) (xs : List V), xs.length = zs.length → (∀ (i : Nat) (z : Str) (v : V), zs[i]? = some z → xs[i]? = some v → ∃ (t : Addr) (c : Int), v = .ref t ∧ H t = some (.tup [.str z, .int c]) ∧ 1 ≤ c ∧ c ≤ 8) →
    ∃ qs : List (Addr × Str × Nat), xs = qs.map (fun q => V.ref q.1) ∧ qs.map (fun q => q.2.1) = zs ∧ ∀ q ∈ qs, H q.1 = some (.tup [.str q.2.1, .int (q.2.2 : Int)]) ∧ 1 ≤ q.2.2 ∧ q.2.2 ≤ 8
  | [], [], _, _ => ⟨[], rfl, rfl, (fun _ h => nomatch h)⟩
  | [], _ :: _, h, _ => by simp at h
  | _ :: _, [], h, _ => by simp at h
  | z :: zs, v :: xs, h, hp => by
    obtain ⟨t, c, rfl, ht, c1, c2⟩ := hp 0 z v rfl rfl
    obtain ⟨qs, e1, e2, e3⟩ := trip_of zs xs (by simpa using h) fun i a u h1 h2 => hp (i + 1) a u (by simpa using h1) (by simpa using h2)
    obtain ⟨n, rfl⟩ : ∃ n : Nat, c = (n : Int) := ⟨c.toNat, by omega⟩
    refine ⟨(t, z, n) :: qs, by rw [e1]; rfl, by rw [List.map_cons, e2], fun q hq => ?_⟩
    rcases List.mem_cons.mp hq with rfl | hq
    · exact ⟨ht, by show 1 ≤ n; omega, by show n ≤ 8; omega⟩
    · exact e3 q hq
theorem stepped_map {α : Type} (f : α → V) (k : Int) (qs : List α) : stepped k (qs.map f) = (if k = 1 then qs else qs.reverse).map f := by
  unfold stepped
  split
  · rfl
  · rw [List.map_reverse]
theorem cut_to {nm : List Str} {r : Nat} (h : r + 1 ≤ nm.length) : cutV (nm.map V.str) none (some (1 + (r : Int))) = (nm.take (r + 1)).map V.str := by
  unfold cutV
  have e : (1 + (r : Int)) = ((r + 1 : Nat) : Int) := by omega
  rw [HT.sIx_none, e, HT.sIx_nat, List.drop_zero, Nat.sub_zero, List.length_map, Nat.min_eq_left h, List.map_take]
def nm1 : List Str := ["x", "y", "z", "w", "v", "u"]
def nm2 : List Str := ["b", "abcdefgh", "jk", "a", "aa", "end"]
theorem nm1_ok : nm1.Nodup ∧ ∀ z ∈ nm1, isNameT z = true := ⟨by decide +kernel, List.all_eq_true.mp (show nm1.all isNameT = true by decide +kernel)⟩
theorem nm2_ok : nm2.Nodup ∧ ∀ z ∈ nm2, isNameT z = true := ⟨by decide +kernel, List.all_eq_true.mp (show nm2.all isNameT = true by decide +kernel)⟩
theorem paired_map {α β γ : Type} {F : β → γ → Prop} {f : α → β} {g : α → γ} : ∀ (qs : List α), (∀ q ∈ qs, F (f q) (g q)) → Paired F (qs.map f) (qs.map g)
  | [], _ => .nil
  | q :: qs, h => .cons (h q List.mem_cons_self) (paired_map qs fun z hz => h z (List.mem_cons_of_mem _ hz))
section
variable {P : Program} {w : World} {K : PySem.W.Frag} {mg : Str → Option Value} {base : Heap}
def sp_law_cells : Sp := fun vs H Q _ => ∃ (p : Addr) (m : Nat), vs = [.ref p, .int (m : Int)] ∧ FeedAt H p ∧ 1 ≤ m ∧ m ≤ 6 ∧ ∀ (d : Addr) (cs : List (Str × Nat)) H', But p H H' → FeedAt H' p → H d = none → H' d = some (.dK (cellKv cs)) → GoodCs cs → Q (.ref d) H'
theorem ok_law_cells {f : Addr} {fd : FuncData} (F : Fun K "_law_cells" "_law_cells" s_law_cells f fd) (T : Txt0 K mg) (TM : TxtM mg) (GT : OkF P w K mg base CX0 "_law_take" p_law_take 1 sp_law_take) (GP : OkF P w K mg base CX0 "_law_pick" p_law_pick 2 (sp_law_pick K)) (GW : OkF P w K mg base CX0 "_law_word" p_law_word 3 sp_law_word) :
    FnOk P w K mg base CX0 4 f fd p_law_cells sp_law_cells := by
  refine F.ok sc_law_cells (fun vs H Q E h => ?_) (fun cdv A outer s H vs Q E hr h => ?_)
  · obtain ⟨p, m, rfl, _⟩ := h
    rfl
  · obtain ⟨p, m, rfl, hp, m1, m2, k⟩ := h
    have hr1 : Room 1 _ := hr.mono (by decide)
    have hr2 : Room 2 _ := hr.mono (by decide)
    refine ⟨_, C8.pss_cut (ps_set (i := 2) sc_law_cells.nd rfl (Or.inl rfl) (pe_fn GP hr2 rfl pass0 (pa_cons (pv 0) (pa_cons (pe_lst (pa_cons (pe_lst (pa_cons pe_str (pa_cons pe_str (pa_cons pe_str (pa_cons pe_str (pa_cons pe_str (pa_cons pe_str pa_nil)))))))
          (pa_cons (pe_lst (pa_cons pe_str (pa_cons pe_str (pa_cons pe_str (pa_cons pe_str (pa_cons pe_str (pa_cons pe_str pa_nil))))))) pa_nil))) pa_nil))))
      (C8.pss_cut (ps_if (pt_cmpR op_eq (pe_fn GT hr1 rfl pass0 (pa_cons (pv 0) (pa_cons pe_int pa_nil))) pe_int (nomark _))
        (pss_one (ps_set (i := 2) sc_law_cells.nd rfl (Or.inl rfl) (pe_callB (cr_sortedSS rfl) (by rfl) T.sorted (by decide +kernel) (pa_cons (pe_callTy (cr_setS rfl) (by rfl) TM.set (by decide +kernel) (pa_cons
          (pe_lc (own := [("turn", 5)]) (g := gName 5) (tt := tYes) rfl sc_law_cells.nd (pi_range1 (by rfl) TM.range (pa_cons pe_int pa_nil)) (blkOk_by (N := n_law_cells) (sc := defScope s_law_cells) (by decide +kernel))
            (fun _ _ _ _ _ => pg_name (i := 5) sc_law_cells.nd rfl (Or.inl rfl)) (fun _ _ _ _ _ => pts_nil) (fun _ _ _ _ _ => pe_fn GW hr rfl pass0 (pa_cons (pv 0) pa_nil))) pa_nil)) pa_nil)))) pss_nil)
      (pss_cons (ps_set (i := 2) sc_law_cells.nd rfl (Or.inl rfl) (pe_slice sl_list (pv 2) po_none (po_some (pe_op op_add pe_int (pe_fn GT hr1 rfl pass0 (pa_cons (pv 0) (pa_cons (pe_callB (call_min2 rfl) (by rfl) TM.min (by decide +kernel) (pa_cons (pv 1) (pa_cons (pe_callB call_len_seq (by rfl) T.len PySem.boot_len (pa_cons (pv 2) pa_nil)) pa_nil))) pa_nil)))))))
      (pss_cons (ps_set (i := 3) sc_law_cells.nd rfl (Or.inr rfl) (pe_fn GP hr2 rfl pass0 (pa_cons (pv 0) (pa_cons (pe_lst (pa_cons pe_int (pa_cons pe_int (pa_cons pe_int pa_nil)))) pa_nil))))
      (pss_cons (ps_setLc (i := 4) (own := [("name", 6)]) (g := gName 6) (tt := tYes) rfl sc_law_cells.nd rfl rfl (sw_true rfl rfl rfl (by decide +kernel)) (pi_list (pv 2)) (blkOk_by (N := n_law_cells) (sc := defScope s_law_cells) (by decide +kernel))
            (fun _ _ _ _ _ => pg_name (i := 6) sc_law_cells.nd rfl (Or.inl rfl)) (fun _ _ _ _ _ => pts_nil)
            (fun _ _ _ _ _ => pe_tup (pa_cons (pv 6) (pa_cons (pe_op op_add pe_int (pe_fn GT hr1 rfl pass0 (pa_cons (pv 0) (pa_cons (pv 3) pa_nil)))) pa_nil))))
      (pss_one (ps_ret (pe_callTy (call_dictP rfl) (by rfl) T.dict (by decide +kernel) (pa_cons (pe_stepL (pv 4) (po_some (pe_fn GP hr2 rfl pass0 (pa_cons (pv 0) (pa_cons (pe_lst (pa_cons pe_int (pa_cons (pe_un un_neg pe_int) pa_nil))) pa_nil))))) pa_nil)))))))), ?_⟩
    refine ⟨fun σ H' => ∃ (a : Addr) (nm : List Str), σ = [some (.ref p), some (.int (m : Int)), some (.ref a), none, none, none, none] ∧ But p H H' ∧ FeedAt H' p ∧ H' a = some (.lst (nm.map V.str)) ∧ 1 ≤ nm.length ∧ nm.length ≤ 6 ∧ nm.Nodup ∧ ∀ z ∈ nm, isNameT z = true, ?_, ?_⟩
    · refine ⟨_, rfl, (by show 6 ≤ sizeLine; decide), fun a1 h1 => ⟨(by show 6 ≤ sizeLine; decide), fun a2 h2 => ⟨(by show 2 ≤ sizeLine; decide), fun a3 h3 => ?_⟩⟩⟩
      have f1 := hp.put (o := .lst (nm1.map V.str)) (hp.ne h1)
      have f2 := f1.put (o := .lst (nm2.map V.str)) (f1.ne h2)
      have b3 : But p H (upd (upd (upd H a1 (.lst (nm1.map V.str))) a2 (.lst (nm2.map V.str))) a3 (.lst [.ref a1, .ref a2])) := (Same.but ((same_new h1).trans ((same_new h2).trans (same_new h3))))
      refine ⟨p, a3, [.ref a1, .ref a2], rfl, f2.put (f2.ne h3), f2.ne h3, SqL.of upd_same, (by show 1 ≤ 2; decide), (by show 2 ≤ 1000000; decide), fun r v H' hv b f => ?_⟩
      have n12 : a1 ≠ a2 := ne_of_none (o := .lst (nm1.map V.str)) upd_same h2
      have n13 : a1 ≠ a3 := ne_of_none (o := .lst (nm1.map V.str)) (H := upd (upd H a1 (.lst (nm1.map V.str))) a2 (.lst (nm2.map V.str))) (by rw [upd_ne n12, upd_same]) h3
      have n23 : a2 ≠ a3 := ne_of_none (o := .lst (nm2.map V.str)) (H := upd (upd H a1 (.lst (nm1.map V.str))) a2 (.lst (nm2.map V.str))) upd_same h3
      match r, hv with
      | 0, e =>
        obtain rfl : V.ref a1 = v := Option.some.inj e
        exact ⟨a1, nm1, rfl, b3.trans b, f, b _ _ (hp.ne h1).symm (by rw [upd_ne n13, upd_ne n12, upd_same]; rfl), by decide, by decide, nm1_ok⟩
      | 1, e =>
        obtain rfl : V.ref a2 = v := Option.some.inj e
        exact ⟨a2, nm2, rfl, b3.trans b, f, b _ _ (f1.ne h2).symm (by rw [upd_ne n23, upd_same]; rfl), by decide, by decide, nm2_ok⟩
      | r + 2, e => exact absurd e (by simp)
    · rintro σ H2 ⟨a, nm, rfl, b2, f2, ha, nl1, nl6, nnd, nok⟩
      refine ⟨fun σ H' => ∃ (a : Addr) (nm : List Str), σ = [some (.ref p), some (.int (m : Int)), some (.ref a), none, none, none, none] ∧ But p H H' ∧ FeedAt H' p ∧ H' a = some (.lst (nm.map V.str)) ∧ 1 ≤ nm.length ∧ nm.length ≤ 6 ∧ nm.Nodup ∧ ∀ z ∈ nm, isNameT z = true, ?_, ?_⟩
      · refine ⟨_, rfl, p, 3, rfl, f2, by decide, by decide, fun r H3 hr3 b3 f3 => ⟨rfl, _, rfl, ?_⟩⟩
        have b23 := b2.trans b3
        by_cases hr0 : r = 0
        · subst hr0
          rw [decide_eq_true (p := V.int ((0 : Nat) : Int) = V.int 0) rfl]
          refine iteT ⟨6, rfl, by decide, by decide, fun D hD => lc_feed (List.range 6) (walk_range (lo := 0) (n := 6)) hD f3 (fun _ v _ => ∃ z, v = V.str z ∧ isNameT z = true) (by decide) (fun _ _ => trivial) ?_ ?_⟩
          · rintro i x v H4 H5 hx b4 f4 _ ⟨rfl, rfl⟩ R hR
            exact ⟨rfl, _, rfl, p, rfl, f4, fun z H6 b6 f6 hz => hR (.str z) H6 b6 f6 fun _ _ => ⟨z, rfl, hz⟩⟩
          · intro H4 xs b4 f4 hL hlen hpr
            obtain ⟨ws, rfl, hw⟩ := strs_all xs fun v hv => by
              obtain ⟨i, hi, rfl⟩ := List.getElem_of_mem hv
              exact hpr i i _ (by rw [List.getElem?_range (by rw [hlen, List.length_range] at hi; exact hi)]) (List.getElem?_eq_getElem hi)
            rw [List.length_map, List.length_range] at hlen
            have dl := dd_len ws
            refine ⟨D, ws, rfl, SqL.of hL, by rw [hlen]; decide, fun q hq => ⟨q, dd ws, rfl, upd_same, dd_nodup ws, by omega, fun q2 hq2 => ?_⟩⟩
            have fq := f4.put (o := SetSO P w q (dd ws)) (f4.ne hq)
            have bq : But p H (upd H4 q (SetSO P w q (dd ws))) := ((b23.trans b4).then (same_new hq))
            refine ⟨q2, srt (dd ws), rfl, bq.then (same_new hq2), fq.put (fq.ne hq2), upd_same, ?_, by rw [(srt_perm _).length_eq]; omega, (srt_perm _).nodup_iff.mpr (dd_nodup ws), fun z hz => hw z ((dd_mem ws z).mp ((srt_perm _).mem_iff.mp hz))⟩
            rw [(srt_perm _).length_eq]
            cases ws with
            | nil => simp at hlen
            | cons z r => exact List.length_pos_of_mem ((dd_mem (z :: r) z).mpr List.mem_cons_self)
        · rw [decide_eq_false (p := V.int (r : Int) = V.int 0) (fun e => hr0 (by have := V.int.inj e; omega))]
          have hap : a ≠ p := fun z => by
            obtain ⟨d, st, g, _⟩ := f2
            rw [z, g] at ha
            have e := HO.lst.inj (Option.some.inj ha)
            cases nm with
            | nil => cases e
            | cons y ys => cases (List.cons.inj e).1
          exact iteF ⟨a, nm, rfl, b23, f3, b3 _ _ hap ha, nl1, nl6, nnd, nok⟩
      · rintro σ H3 ⟨a, nm, rfl, b3, f3, ha, nl1, nl6, nnd, nok⟩
        have hn : ∃ n : Nat, n = min m nm.length := ⟨_, rfl⟩
        obtain ⟨n, hn⟩ := hn
        have hif : (if ((nm.length : Nat) : Int) < (m : Int) then ((nm.length : Nat) : Int) else (m : Int)) = (n : Int) := by split <;> omega
        refine ⟨_, rfl, _, rfl, _, rfl, _, rfl, a, _, rfl, .inl (SqL.of ha), _, _, rfl, p, n, ?_, f3, by omega, by omega, fun r H4 hr4 b4 f4 => ?_⟩
        · rw [List.length_map, hif]
          rfl
        have hap : a ≠ p := fun z => by
          obtain ⟨d, st, g, _⟩ := f3
          rw [z, g] at ha
          have e := HO.lst.inj (Option.some.inj ha)
          cases nm with
          | nil => cases e
          | cons y ys => cases (List.cons.inj e).1
        have ha4 := b4 _ _ hap ha
        refine ⟨1, (r : Int), rfl, rfl, _, rfl, a, _, rfl, SqL.of ha4, fun o ho => ?_⟩
        rw [cut_to (by omega)] at *
        have nl' : (nm.take (r + 1)).length = r + 1 := by rw [List.length_take]; omega
        have nnd' : (nm.take (r + 1)).Nodup := nnd.sublist (List.take_sublist _ _)
        have nok' : ∀ z ∈ nm.take (r + 1), isNameT z = true := fun z hz => nok z (List.mem_of_mem_take hz)
        generalize nm.take (r + 1) = nm' at *
        have b5 := (b3.trans b4).then (same_new (o := .lst (nm'.map V.str)) ho)
        have f5 := f4.put (o := .lst (nm'.map V.str)) (f4.ne ho)
        have ho5 : (upd H4 o (.lst (nm'.map V.str))) o = some (.lst (nm'.map V.str)) := upd_same
        have hop : o ≠ p := (f4.ne ho).symm
        generalize (upd H4 o (.lst (nm'.map V.str))) = H5 at b5 f5 ho5 ⊢
        refine ⟨_, rfl, (by show 3 ≤ sizeLine; decide), fun c hc => ⟨p, c, _, rfl, f5.put (f5.ne hc), f5.ne hc, SqL.of upd_same, (by show 1 ≤ 3; decide), (by show 3 ≤ 1000000; decide), fun r2 v H6 hv b6 f6 => ?_⟩⟩
        obtain ⟨sz, rfl, sz1, sz8⟩ : ∃ n : Nat, v = .int (n : Int) ∧ 1 ≤ n ∧ n ≤ 8 := by
          have hv' : ([V.int 1, .int 2, .int 8] : List V)[r2]? = some v := hv
          match r2, hv' with
          | 0, e => exact ⟨1, (Option.some.inj e).symm, by decide, by decide⟩
          | 1, e => exact ⟨2, (Option.some.inj e).symm, by decide, by decide⟩
          | 2, e => exact ⟨8, (Option.some.inj e).symm, by decide, by decide⟩
          | r + 3, e => exact absurd e (by simp)
        have bH6 : But p H H6 := (b5.then (same_new hc)).trans b6
        have ho6 := b6 _ _ hop (same_new hc _ _ ho5)
        have wl : Walk (Itl K o) nm'.length (fun H => SqL K H o (nm'.map V.str)) (YAt (nm'.map V.str)) := (walk_list (K := K) (a := o) (xs := nm'.map V.str) |> fun z => by rw [List.length_map] at z; exact z)
        refine ⟨_, rfl, o, rfl, ⟨_, SqL.of ho6⟩, fun D hD => lc_feed nm' wl hD f6 (fun z v H => ∃ (t : Addr) (c : Int), v = .ref t ∧ H t = some (.tup [.str z, .int c]) ∧ 1 ≤ c ∧ c ≤ 8) (by omega) (fun H7 b7 => SqL.of (b7 _ _ hop ho6)) ?_ ?_⟩
        · rintro i z x H7 H8 hz b7 f7 ⟨acc, hacc⟩ ⟨rfl, hx⟩ R hR
          rw [List.getElem?_map, hz] at hx
          obtain rfl : V.str z = x := Option.some.inj hx
          refine ⟨rfl, _, rfl, _, rfl, _, rfl, p, sz, rfl, f7, sz1, by omega, fun r9 H9 hr9 b9 f9 => ⟨1, (r9 : Int), rfl, rfl, (by show 2 ≤ sizeLine; decide), fun t ht => ?_⟩⟩
          have hDp : D ≠ p := (f6.ne hD).symm
          refine hR (.ref t) _ (b9.then (same_new ht)) (f9.put (f9.ne ht)) fun H10 b10 => ⟨t, _, rfl, b10 t _ (f9.ne ht).symm (ne_of_none (b9 _ _ hDp hacc) ht).symm upd_same, by omega, by omega⟩
        · intro H7 xs b7 f7 hL hlen hpr
          obtain ⟨qs, rfl, eqs, hqs⟩ := trip_of nm' xs hlen hpr
          have hqp : ∀ q ∈ qs, q.1 ≠ p := fun q hq z => by
            obtain ⟨d, st, g, _⟩ := f7
            have e := (hqs q hq).1
            rw [z, g] at e
            cases e
          have hDp : D ≠ p := (f6.ne hD).symm
          refine ⟨_, rfl, _, rfl, 1, rfl, (by show 2 ≤ sizeLine; decide), fun c8 hc8 => ⟨p, c8, _, rfl, f7.put (f7.ne hc8), f7.ne hc8, SqL.of upd_same, (by show 1 ≤ 2; decide), (by show 2 ≤ 1000000; decide), fun r8 v H8 hv b8 f8 => ?_⟩⟩
          obtain ⟨k8, rfl, hk8⟩ : ∃ k : Int, v = .int k ∧ (k = 1 ∨ k = -1) := by
            have hv' : ([V.int 1, .int (-1)] : List V)[r8]? = some v := hv
            match r8, hv' with
            | 0, e => exact ⟨1, (Option.some.inj e).symm, .inl rfl⟩
            | 1, e => exact ⟨-1, (Option.some.inj e).symm, .inr rfl⟩
            | r + 2, e => exact absurd e (by simp)
          have s78 : ∀ b o, b ≠ p → H7 b = some o → H8 b = some o := fun b o hb e => b8 b o hb (same_new hc8 _ _ e)
          have bH8 : But p H H8 := ((bH6.trans b7).then (same_new hc8)).trans b8
          refine ⟨k8, rfl, D, _, k8, rfl, SqL.of (s78 _ _ hDp hL), rfl, hk8, fun q9 hq9 => ?_⟩
          rw [stepped_map]
          have hm : ∀ q, q ∈ (if k8 = 1 then qs else qs.reverse) ↔ q ∈ qs := fun q => by split <;> simp
          have hl9 : (if k8 = 1 then qs else qs.reverse).length = qs.length := by split <;> simp
          have hnd : ((if k8 = 1 then qs else qs.reverse).map fun q => q.2.1).Nodup := by
            split
            · rw [eqs]; exact nnd'
            · rw [List.map_reverse, eqs]; exact (List.reverse_perm _).nodup_iff.mpr nnd'
          generalize (if k8 = 1 then qs else qs.reverse) = qr at hm hl9 hnd ⊢
          have ql : qs.length = r + 1 := by rw [← nl', ← eqs, List.length_map]
          refine ⟨q9, qr.map (·.1), qr.map (fun q => (Sum.inr q.2.1, V.int (q.2.2 : Int))), rfl, SqL.of (by rw [upd_same, List.map_map]; rfl), paired_map qr fun q hq => SqT.of (same_new hq9 _ _ (s78 _ _ (hqp q ((hm q).mp hq)) (hqs q ((hm q).mp hq)).1)), fun d hd => ?_⟩
          have ekv : mergeK [] (qr.map (fun q => ((Sum.inr q.2.1, V.int (q.2.2 : Int)) : Key × V))) = cellKv (qr.map fun q => q.2) := by
            rw [merge_nodup]
            · unfold cellKv
              rw [List.map_map]
              rfl
            · rw [List.nil_append, List.map_map]
              have : (qr.map fun q => q.2.1).map (Sum.inr : Str → Key) = qr.map (Prod.fst ∘ fun q => ((Sum.inr q.2.1, V.int (q.2.2 : Int)) : Key × V)) := by rw [List.map_map]; rfl
              rw [← this]
              exact hnd.map _ fun _ _ h e => h (Sum.inr.inj e)
          have bH9 := bH8.then (same_new (o := .lst (qr.map fun q => V.ref q.1)) hq9)
          have f9 := f8.put (o := .lst (qr.map fun q => V.ref q.1)) (f8.ne hq9)
          refine k d (qr.map fun q => q.2) _ (bH9.then (same_new hd)) (f9.put (f9.ne hd)) (bH9.free f9 hd) (by rw [upd_same, ekv]) ⟨fun e => ?_, by rw [List.length_map]; omega, fun c hc => ?_, fun c hc => ?_, by rw [List.map_map]; exact hnd⟩
          · have := congrArg List.length e
            rw [List.length_map, List.length_nil] at this
            omega
          · obtain ⟨q, hq, rfl⟩ := List.mem_map.mp hc
            refine nok' q.2.1 ?_
            rw [← eqs]
            exact List.mem_map_of_mem (f := fun q : Addr × Str × Nat => q.2.1) ((hm q).mp hq)
          · obtain ⟨q, hq, rfl⟩ := List.mem_map.mp hc
            exact (hqs q ((hm q).mp hq)).2
end
end Vf

set_option maxRecDepth 100000
set_option maxHeartbeats 4000000
namespace Vf
open PySem PySem.Spec PyProof.Rows L2
def rItemsK : V → List V → Hp → VK → Prop := fun x xs H Q => ∃ (a : Addr) (kvs : List (Key × V)), x = .ref a ∧ xs = [] ∧ H a = some (.dK kvs) ∧ ∀ p, H p = none → Q (.ref p) (upd H p (L2.DX.itemsO p a))
theorem mt_itemsK {X : Cx} : MtR X "dict.items" rItemsK := by
  intro pins s σ H x xs v us Q I rx rxs h
  obtain ⟨a, kvs, rfl, rfl, ha, q⟩ := h
  cases rx
  cases rxs
  obtain ⟨hz, hs0, vs, kv, hdo⟩ := (show ObjOk X.prog X.w H s.heap a (.dK kvs) from I.hok a _ ha)
  refine call_meetsIn PySem.F.slot_dict_items hdo.typeIs PySem.F.entry_dict_items (PySem.F.args_dict_items_1 _) (meets_dict_items (mixKind X.prog X.w) a hs0) ⟨⟨vs, hdo⟩, ?_⟩
  have hf : H s.heap.objs.size = none := I.hok.fresh (Nat.le_refl _)
  exact ⟨.ref s.heap.objs.size, upd H s.heap.objs.size (L2.DX.itemsO s.heap.objs.size a), I.laid (t' := s.toks) (fun b u e => Heap.get?_push_of_some _ e) (Nat.le_refl _) (L2.DX.itemsO_ok (Heap.get?_push_size _ rfl)), rfl, q _ hf⟩
theorem pe_ditems {X : Cx} {o : Expr} {to : TE} {apos cpos : Pos} (ho : PE X o to) (hbase : attributeBase o "items" X.env (eval o X.env) = eval o X.env := by rfl) (hline : (apos.endLine == cpos.line) = true := by rfl) : PE X (.Call (.Attribute o "items" apos) [] [] cpos) (tBM0 X.K "dict" rItemsK to) :=
  pe_bm0 PySem.F.plainAttrs_dict PySem.F.slot_dict_items PySem.F.type_dict_items mt_itemsK ho hbase hline
def prD (c : Str × Nat) : PyData := .tuple [.str c.1, .int (c.2 : Int)]
def srtP (cs : List (Str × Nat)) : List (Str × Nat) := cs.mergeSort (PySem.W.dataLe false prD)
theorem alike_pr (a b : Str × Nat) : PySem.W.alike (prD a) (prD b) = true := by
  unfold prD
  simp only [PySem.W.alike, PySem.W.alikeAll, Bool.and_self]
theorem toks_pr (a : Str × Nat) : PySem.W.keyToks (prD a) = [.inl 1, .inr a.1.cps.toList, .inl 1, .inl (a.2 : Int), .inl 0] := by
  unfold prD
  simp [PySem.W.keyToks, PySem.W.keyToksAll]
theorem pr_anti {a b : Str × Nat} (h1 : PySem.W.dataLe false prD a b = true) (h2 : PySem.W.dataLe false prD b a = true) : a = b := by
  have e1 : (listOrd itemOrd).blt (PySem.W.keyToks (prD b)) (PySem.W.keyToks (prD a)) = false := Bool.not_eq_true' _ |>.mp h1
  have e2 : (listOrd itemOrd).blt (PySem.W.keyToks (prD a)) (PySem.W.keyToks (prD b)) = false := Bool.not_eq_true' _ |>.mp h2
  have e := (listOrd itemOrd).total _ _ e2 e1
  rw [toks_pr, toks_pr] at e
  injection e with _ e
  injection e with q1 e
  injection e with _ e
  injection e with q2 e
  have z1 := str_eq (Sum.inr.inj q1)
  have z2 : (a.2 : Int) = b.2 := Sum.inl.inj q2
  exact Prod.ext z1 (by omega)
theorem dle_trans {β : Type} (k : β → PyData) (a b c : β) : PySem.W.dataLe false k a b = true → PySem.W.dataLe false k b c = true → PySem.W.dataLe false k a c = true := (PySem.W.sortLe_total (listOrd itemOrd) false fun b => PySem.W.keyToks (k b)).trans a b c
theorem dle_total {β : Type} (k : β → PyData) (a b : β) : (PySem.W.dataLe false k a b || PySem.W.dataLe false k b a) = true := by
  have := (PySem.W.sortLe_total (listOrd itemOrd) false fun b => PySem.W.keyToks (k b)).total a b
  rw [Bool.or_eq_true]
  exact this
theorem srtP_same {a b : List (Str × Nat)} (p : a.Perm b) : srtP a = srtP b :=
  List.Perm.eq_of_pairwise (le := fun a b => PySem.W.dataLe false prD a b = true) (fun _ _ _ _ h1 h2 => pr_anti h1 h2) (List.pairwise_mergeSort (dle_trans prD) (dle_total prD) a) (List.pairwise_mergeSort (dle_trans prD) (dle_total prD) b)
    ((List.mergeSort_perm a _).trans (p.trans (List.mergeSort_perm b _).symm))
theorem toks_ln : ∀ {xs ys : List Str}, PySem.W.keyToksAll (xs.map PyData.str) = PySem.W.keyToksAll (ys.map PyData.str) → xs = ys
  | [], [], _ => rfl
  | [], y :: ys, h => by simp [PySem.W.keyToksAll] at h
  | x :: xs, [], h => by simp [PySem.W.keyToksAll] at h
  | x :: xs, y :: ys, h => by
    simp only [List.map_cons, PySem.W.keyToksAll, PySem.W.keyToks, List.cons_append, List.nil_append] at h
    injection h with _ h
    injection h with q1 h
    rw [str_eq (Sum.inr.inj q1), toks_ln h]
theorem ln_anti {a b : List Str} (h1 : leL a b = true) (h2 : leL b a = true) : a = b := by
  have e1 : (listOrd itemOrd).blt (PySem.W.keyToks (lnD b)) (PySem.W.keyToks (lnD a)) = false := Bool.not_eq_true' _ |>.mp h1
  have e2 : (listOrd itemOrd).blt (PySem.W.keyToks (lnD a)) (PySem.W.keyToks (lnD b)) = false := Bool.not_eq_true' _ |>.mp h2
  have e := (listOrd itemOrd).total _ _ e2 e1
  unfold lnD at e
  rw [PySem.W.keyToks, PySem.W.keyToks] at e
  exact toks_ln e
theorem sortL_same {a b : List (List Str)} (p : a.Perm b) : sortL a = sortL b :=
  List.Perm.eq_of_pairwise (le := fun a b => leL a b = true) (fun _ _ _ _ h1 h2 => ln_anti h1 h2) (List.pairwise_mergeSort (dle_trans lnD) (dle_total lnD) a) (List.pairwise_mergeSort (dle_trans lnD) (dle_total lnD) b)
    ((sortL_perm a).trans (p.trans (sortL_perm b).symm))
def rSortItK : List V → Hp → VK → Prop := fun vs H Q => ∃ (p a : Addr) (cs : List (Str × Nat)), vs = [.ref p] ∧ H p = some (L2.DX.itemsO p a) ∧ H a = some (.dK (cs.map fun c => (Sum.inr c.1, V.int (c.2 : Int)))) ∧ cs.length < 64 ∧ cs ≠ [] ∧
  ∀ (H' : Hp) (l : Addr) (qs : List (Addr × Str × Nat)), Same H H' → H l = none → H' l = some (.lst (qs.map fun q => V.ref q.1)) → (∀ q ∈ qs, H' q.1 = some (.tup [.str q.2.1, .int (q.2.2 : Int)])) → qs.map (·.2) = srtP cs → Q (.ref l) H'
theorem zip_snd {α β : Type} : ∀ (as : List α) (cs : List β), as.length = cs.length → (as.zip cs).map (·.2) = cs ∧ (as.zip cs).map (·.1) = as
  | [], [], _ => ⟨rfl, rfl⟩
  | [], _ :: _, h => by simp at h
  | _ :: _, [], h => by simp at h
  | a :: as, c :: cs, h => by
    obtain ⟨e1, e2⟩ := zip_snd as cs (by simpa using h)
    exact ⟨by rw [List.zip_cons_cons, List.map_cons, e1], by rw [List.zip_cons_cons, List.map_cons, e2]⟩
theorem each_self {α β : Type} {R : α → β → Prop} {f : β → α} : ∀ (bs : List β), (∀ b ∈ bs, R (f b) b) → PySem.W.EachIs R (bs.map f) bs
  | [], _ => .nil
  | b :: bs, h => .cons (h b List.mem_cons_self) (each_self bs fun c hc => h c (List.mem_cons_of_mem _ hc))
theorem refs_each : ∀ {out : List Value} {bs : List (Addr × Str × Nat)}, PySem.W.EachIs (fun v (b : Addr × Str × Nat) => v = Value.ref b.1) out bs → out = bs.map fun b => Value.ref b.1
  | _, _, .nil => rfl
  | _, _, .cons h1 t => by rw [List.map_cons, h1, refs_each t]
theorem cr_sortItK {X : Cx} (hc : X.calm = true) {k : Nat} (hr : Room k X.A) : CallR X (.builtin "sorted") rSortItK := by
  intro pins s σ H vs us Q I r h
  obtain ⟨p, a, cs, rfl, hp, ha, h64, hne, q⟩ := h
  obtain rfl := Vals.ref1 r
  have view : s.heap.IsItemsView p a := (show ObjOk X.prog X.w H s.heap p (L2.DX.itemsO p a) from I.hok p _ hp).1
  obtain ⟨hz, hs0, ws, kv, hdo⟩ := (show ObjOk X.prog X.w H s.heap a (.dK (cs.map fun c => (Sum.inr c.1, V.int (c.2 : Int)))) from I.hok a _ ha)
  obtain ⟨ep, hat⟩ := hdo.dictAt
  have lk : cs.length = ws.length := by
    have := Paired.length kv
    rwa [List.length_map] at this
  have un := hr.un
  refine Calls.call_function_entry kind_sorted plain_sorted entry_sorted (args_sorted1 _) ?_
  unfold Builtin.«sorted»
  refine wpAny_bind (m := checkCount "sorted" 1 1 _) (wpAny_pure ?_)
  refine wpAny_bind (PySem.W.kdx_collect (A := X.A.in1) (knd := mixKind X.prog X.w) (kvs := ws) (ep := ep) (I.ok.hd hc) view hat (by rw [sizeLine_eq]; omega) fun h' tk as hk hl hG => ?_)
  have la : as.length = cs.length := by omega
  obtain ⟨zs, zf⟩ := zip_snd as cs la
  have pr : ∀ b ∈ as.zip cs, ∃ t1 t2, h'.get? b.1 = some { cls := .type "tuple", data := .seq #[.str b.2.1 t1, .int (b.2.2 : Int) t2] } := fun b hb => by
    obtain ⟨j, hj, rfl⟩ := List.getElem_of_mem hb
    rw [List.length_zip] at hj
    have e1 : as[j]? = some (as.zip cs)[j].1 := by rw [List.getElem_zip, List.getElem?_eq_getElem (by omega)]
    obtain ⟨key, kk, x, f1, f2, f3⟩ := hG.pairs j _ e1
    have e2 : (cs.map fun c => ((Sum.inr c.1, V.int (c.2 : Int)) : Key × V))[j]? = some (Sum.inr (as.zip cs)[j].2.1, V.int ((as.zip cs)[j].2.2 : Int)) := by
      rw [List.getElem?_map, List.getElem_zip, List.getElem?_eq_getElem (by omega)]
      rfl
    obtain ⟨y, g1, g2, g3⟩ := LiI.paired_get kv e2
    rw [f1] at g1
    obtain rfl := Option.some.inj g1
    dsimp only at g2 g3
    subst g2
    obtain ⟨t2, rfl⟩ := g3
    obtain ⟨t1, rfl⟩ : ∃ t, key = .str (as.zip cs)[j].2.1 t := relV_key (show keyIs (Sum.inr (as.zip cs)[j].2.1) key = true from f2)
    exact ⟨t1, t2, f3⟩
  have hvs : as.map Value.ref = (as.zip cs).map fun b => Value.ref b.1 := by
    have : (as.zip cs).map (fun b => Value.ref b.1) = ((as.zip cs).map (·.1)).map Value.ref := by rw [List.map_map]; rfl
    rw [this, zf]
  have lz : (as.zip cs).length = cs.length := by rw [List.length_zip]; omega
  refine wpAny_bind (wpAny_newList ?_ (by rw [List.length_map, la, sizeLine_eq]; omega))
  have hoL : (h'.push (seqObj "list" (as.map Value.ref).toArray 0)).get? h'.objs.size = some (seqObj "list" (as.map Value.ref).toArray 0) := Heap.get?_push_size _ rfl
  have keep0 : ∀ b o, h'.get? b = some o → (PySem.W.sortingHeap (h'.push (seqObj "list" (as.map Value.ref).toArray 0)) h'.objs.size (as.map Value.ref)).get? b = some o := fun b o e => PySem.W.sortingHeap_old (Nat.ne_of_lt (Heap.lt_size e)) (Heap.get?_push_of_some _ e)
  have er : PySem.W.EachIs (fun v (b : Addr × Str × Nat) => ∃ as', Reads (PySem.W.sortingHeap (h'.push (seqObj "list" (as.map Value.ref).toArray 0)) h'.objs.size (as.map Value.ref)) v (prD b.2) as') (as.map Value.ref) (as.zip cs) := by
    conv => arg 2; rw [hvs]
    refine each_self (f := fun b : Addr × Str × Nat => Value.ref b.1) _ fun b hb => ?_
    obtain ⟨t1, t2, e⟩ := pr b hb
    exact ⟨_, .tuple (keep0 _ _ e) rfl rfl (.cons (.str _ _) (.cons (.int _ _) .nil))⟩
  have ei : PySem.W.EachIs (fun v (b : Addr × Str × Nat) => v = Value.ref b.1) (as.map Value.ref) (as.zip cs) := by
    rw [hvs]
    exact each_self (f := fun b : Addr × Str × Nat => Value.ref b.1) _ fun b hb => rfl
  have hal : PySem.W.AllAlike ((as.zip cs).map fun b => prD b.2) := fun d hd d' hd' => by
    obtain ⟨b, _, rfl⟩ := List.mem_map.mp hd
    obtain ⟨b', _, rfl⟩ := List.mem_map.mp hd'
    exact alike_pr b.2 b'.2
  have hso : PySem.W.Sortable ((as.zip cs).map fun b => prD b.2) := .inl fun d hd => by
    obtain ⟨b, _, rfl⟩ := List.mem_map.mp hd
    exact ⟨_, _, rfl⟩
  have hb1 : ∀ d ∈ ((as.zip cs).map fun b => prD b.2), d.depth ≤ 1 := fun d hd => by
    obtain ⟨b, _, rfl⟩ := List.mem_map.mp hd
    simp [prD, PyData.depth, PyData.depthAll]
  refine wpAny_bind (wpAny_holding (wpAny_call_entry slot_list_sort ⟨_, hoL, rfl⟩ entry_list_sort
    (PySem.W.list_sort_vals (κ := PySem.W.dataKind (PySem.W.sortingHeap (h'.push (seqObj "list" (as.map Value.ref).toArray 0)) h'.objs.size (as.map Value.ref)) ((as.zip cs).map fun b => prD b.2)) hoL
      (PySem.W.SortsAt.data (s := { s with heap := PySem.W.sortingHeap (h'.push (seqObj "list" (as.map Value.ref).toArray 0)) h'.objs.size (as.map Value.ref), toks := tk }) (PySem.W.each_map (R := fun v d => ∃ as', Reads (PySem.W.sortingHeap (h'.push (seqObj "list" (as.map Value.ref).toArray 0)) h'.objs.size (as.map Value.ref)) v d as') (fun b : Addr × Str × Nat => prD b.2) er) hal hso fun d hd => by
        have := hb1 d hd
        show X.A.units + 1 + 1 + d.depth < cLine
        omega) (by rw [List.length_map, la, sizeLine_eq]; omega) ⟨_, rfl, ?_⟩) (args_list_sort _)))
  have outE := PySem.W.sortVals_data false ei er hal
  generalize PySem.W.sortVals (PySem.W.dataKind (PySem.W.sortingHeap (h'.push (seqObj "list" (as.map Value.ref).toArray 0)) h'.objs.size (as.map Value.ref)) ((as.zip cs).map fun b => prD b.2)) false (as.map Value.ref) (as.map Value.ref) = out at outE ⊢
  have eo := refs_each outE
  have hqm : ∀ b, b ∈ (as.zip cs).mergeSort (PySem.W.dataLe false fun b => prD b.2) ↔ b ∈ as.zip cs := fun b => (List.mergeSort_perm _ _).mem_iff
  have hql : ((as.zip cs).mergeSort (PySem.W.dataLe false fun b => prD b.2)).length = cs.length := by rw [List.length_mergeSort, lz]
  have hqs : ((as.zip cs).mergeSort (PySem.W.dataLe false fun b => prD b.2)).map (·.2) = srtP cs := by
    have e : ((as.zip cs).mergeSort (PySem.W.dataLe false fun b => prD b.2)).map (·.2) = ((as.zip cs).map (·.2)).mergeSort (PySem.W.dataLe false prD) := List.map_mergeSort (f := fun b : Addr × Str × Nat => b.2) fun _ _ _ _ => rfl
    rw [e, zs]
    rfl
  generalize (as.zip cs).mergeSort (PySem.W.dataLe false fun b => prD b.2) = qs at hqm hql hqs eo
  subst eo
  have kF : ∀ b o, b ≠ h'.objs.size → h'.get? b = some o → (sortedHeap (h'.push (seqObj "list" (as.map Value.ref).toArray 0)) h'.objs.size (as.map Value.ref) (qs.map fun b => Value.ref b.1).toArray).get? b = some o := fun b o hb e => (sortedHeap_old hb (Nat.lt_of_lt_of_le (Heap.lt_size e) (by rw [size_push']; exact Nat.le_succ _))).trans (Heap.get?_push_of_some _ e)
  have kS : ∀ b o, s.heap.get? b = some o → (sortedHeap (h'.push (seqObj "list" (as.map Value.ref).toArray 0)) h'.objs.size (as.map Value.ref) (qs.map fun b => Value.ref b.1).toArray).get? b = some o := fun b o e => kF b o (Nat.ne_of_lt (Heap.lt_size (hk b o e))) (hk b o e)
  obtain ⟨eF, heF⟩ := sortedHeap_at (vs := as.map Value.ref) (out := (qs.map fun b => Value.ref b.1).toArray) hoL
  have hlt : s.heap.objs.size ≤ h'.objs.size := by
    cases e : as with
    | nil =>
      rw [e] at la
      exact absurd (List.length_eq_zero_iff.mp la.symm) hne
    | cons b r =>
      have hb : b ∈ as := by rw [e]; exact List.mem_cons_self
      exact Nat.le_of_lt (Nat.lt_trans (hG.above b hb) (hG.there hb))
  have hn0 : H h'.objs.size = none := I.hok.fresh hlt
  have nd : as.Nodup := List.Pairwise.imp (fun {a b} (h : a < b) => Nat.ne_of_lt h) hG.rise
  generalize hFH : sortedHeap (h'.push (seqObj "list" (as.map Value.ref).toArray 0)) h'.objs.size (as.map Value.ref) (qs.map fun b => Value.ref b.1).toArray = hF at kF kS heF
  have I1 : Inv X pins σ H { s with heap := hF, toks := tk } := I.kept (t' := tk) kS
  have I2 : Inv X pins σ (upd H h'.objs.size (.lst (qs.map fun q => V.ref q.1))) { s with heap := hF, toks := tk } :=
    I1.take (h' := hF) (t' := tk) (fun b ob _ e => e) (I.fpOk hlt hn0) ⟨by rw [List.length_map, hql, sizeLine_eq]; omega, (qs.map fun b => Value.ref b.1), eF, by
      have : ∀ l : List (Addr × Str × Nat), Vals (l.map fun q => V.ref q.1) (l.map fun b => Value.ref b.1) := fun l => by
        induction l with
        | nil => exact .nil
        | cons b r ih => exact .cons rfl ih
      exact this qs, heF⟩
  obtain ⟨H2, I3, g, qt⟩ := L2.DX.takeT (P := fun b vs => ∃ c : Str × Nat, (b, c) ∈ as.zip cs ∧ vs = [.str c.1, .int (c.2 : Int)]) I as _ I2 nd fun b hb => by
    obtain ⟨c, hc⟩ : ∃ c, (b, c) ∈ as.zip cs := by
      rw [← zf] at hb
      obtain ⟨z, hz, rfl⟩ := List.mem_map.mp hb
      exact ⟨z.2, hz⟩
    obtain ⟨t1, t2, hg⟩ := pr (b, c) hc
    have hbl : s.heap.objs.size ≤ b := Nat.le_of_lt (hG.above b hb)
    have hbn : b ≠ h'.objs.size := Nat.ne_of_lt (Heap.lt_size hg)
    refine ⟨hbl, ?_, [.str c.1, .int (c.2 : Int)], ⟨c, hc, rfl⟩, fun H3 => ⟨(by show 2 ≤ sizeLine; decide), [.str c.1 t1, .int (c.2 : Int) t2], .cons ⟨_, rfl⟩ (.cons ⟨_, rfl⟩ .nil), ⟨_, kF _ _ hbn hg, rfl, 0, rfl⟩⟩⟩
    rw [upd_ne hbn]
    exact I.hok.fresh hbl
  have gr : Same H H2 := fun b o e => g b o (by rw [upd_ne (ne_of_none e hn0)]; exact e)
  refine wpAny_pure ⟨_, rfl, .ref h'.objs.size, H2, ?_, rfl, q H2 h'.objs.size qs gr hn0 (g _ _ upd_same) (fun z hz => ?_) hqs⟩
  · exact I3
  · have hz' := (hqm z).mp hz
    obtain ⟨vs, ⟨c, hc, rfl⟩, hH⟩ := qt z.1 (List.of_mem_zip hz').1
    have : c = z.2 := by
      obtain ⟨i, hi, ei⟩ := List.getElem_of_mem hz'
      obtain ⟨j, hj, ej⟩ := List.getElem_of_mem hc
      rw [List.length_zip] at hi hj
      rw [List.getElem_zip] at ei ej
      have e1 : as[i]? = as[j]? := by
        rw [List.getElem?_eq_getElem (by omega), List.getElem?_eq_getElem (by omega)]
        have a1 := congrArg Prod.fst ei
        have a2 := congrArg Prod.fst ej
        exact congrArg some (a1.trans a2.symm)
      have eij := (List.getElem?_inj (by omega) nd).mp e1
      subst eij
      have a1 := congrArg Prod.snd ei
      have a2 := congrArg Prod.snd ej
      exact a2.symm.trans a1
    rw [this] at hH
    exact hH
end Vf

set_option maxRecDepth 100000
set_option maxHeartbeats 4000000
namespace Vf
open PySem PySem.Spec PyProof.Rows L2
def rRepr (K : PySem.W.Frag) : List V → Hp → VK → Prop := fun xs H Q => ∃ (a : Addr) (d : PyData), xs = [.ref a] ∧ Dp K H (.ref a) d ∧ d.showable = true ∧ d.hasDict = false ∧ d.depth ≤ 64 ∧ d.shown.length ≤ sizeLine ∧ Q (.str d.shown) H
theorem cr_repr {X : Cx} (hgd : Calm X.A) {k : Nat} (hr : Room k X.A) : CallR X (.builtin "repr") (rRepr X.K) := by
  intro pins s σ H vs us Q I r h
  obtain ⟨a, d, rfl, hd, sh, nod, dep, hz, q⟩ := h
  obtain ⟨u, rfl, r1⟩ := vals1 r
  obtain ⟨as, rd⟩ := Dp.reads I d (.ref a) u hd r1
  obtain rfl : u = Value.ref a := r1
  have room := hr.un
  refine repr_of_reads' rd sh (fun z => by rw [nod] at z; cases z) hgd (by omega) (fun _ _ e => e) (fun h' u tk keep => ?_) hz
  exact ⟨.str d.shown, H, I.kept (t' := tk) keep, ⟨u, rfl⟩, q⟩
mutual
/-- data that can be shown: small numbers, texts, lists and tuples -/
def shD : PyData → Bool
  | .none => true
  | .bool _ => true
  | .int i => decide (0 ≤ i) && decide (i < 1000000)
  | .str x => PyData.strOk x
  | .list xs => shAll xs
  | .tuple xs => shAll xs
  | .dict _ => false
def shAll : List PyData → Bool
  | [] => true
  | x :: xs => shD x && shAll xs
end
theorem int_short {i : Int} (h : 0 ≤ i) (h2 : i < 1000000) : (PyData.int i).shown.length ≤ 13 ∧ i.natAbs.log2 < 1920 := by
  obtain ⟨k, rfl⟩ := Int.eq_ofNat_of_zero_le h
  have hk : k < 1000000 := by omega
  constructor
  · show (natS k).length ≤ 13
    rw [TL.len_tl, tl_natS]
    exact Nat.le_trans (TL.numL_len (k := 6) (by decide) (by simpa using hk)) (by decide)
  · show k.log2 < 1920
    by_cases h0 : k = 0
    · subst h0
      decide
    · exact Nat.lt_of_lt_of_le ((Nat.log2_lt h0).mpr (show k < 2 ^ 20 by omega)) (by decide)
mutual
theorem sh_show : ∀ d : PyData, shD d = true → d.showable = true ∧ d.hasDict = false ∧ d.leavesShort 13 = true
  | .none, _ => ⟨rfl, rfl, rfl⟩
  | .bool _, _ => ⟨rfl, rfl, rfl⟩
  | .int i, h => by
    simp only [shD, Bool.and_eq_true, decide_eq_true_eq] at h
    obtain ⟨h1, h2⟩ := int_short h.1 h.2
    exact ⟨by simpa [PyData.showable] using h2, rfl, by simpa [PyData.leavesShort] using h1⟩
  | .str x, h => by
    refine ⟨rfl, rfl, ?_⟩
    simp only [shD, PyData.strOk] at h
    rw [← Array.all_toList, List.all_eq_true] at h
    simp only [PyData.leavesShort, List.all_eq_true, decide_eq_true_eq]
    intro c hc
    have := h c hc
    simp only [decide_eq_true_eq] at this
    have e : (16 : Nat) ^ 8 = 4294967296 := by decide
    omega
  | .list xs, h => by
    have := sh_showAll xs (by simpa [shD] using h)
    simpa [PyData.showable, PyData.hasDict, PyData.leavesShort] using this
  | .tuple xs, h => by
    have := sh_showAll xs (by simpa [shD] using h)
    simpa [PyData.showable, PyData.hasDict, PyData.leavesShort] using this
  | .dict _, h => by simp [shD] at h
theorem sh_showAll : ∀ xs : List PyData, shAll xs = true → PyData.showableAll xs = true ∧ PyData.hasDictAll xs = false ∧ PyData.leavesShortAll 13 xs = true
  | [], _ => ⟨rfl, rfl, rfl⟩
  | x :: xs, h => by
    simp only [shAll, Bool.and_eq_true] at h
    obtain ⟨a1, a2, a3⟩ := sh_show x h.1
    obtain ⟨b1, b2, b3⟩ := sh_showAll xs h.2
    simp [PyData.showableAll, PyData.hasDictAll, PyData.leavesShortAll, a1, a2, a3, b1, b2, b3]
end
theorem shown_fits {d : PyData} (h : shD d = true) (hw : d.weight ≤ 1000000) : d.shown.length ≤ sizeLine := by
  have := PyData.shown_le 13 (by decide) d (sh_show d h).2.2
  rw [sizeLine_eq]
  omega
end Vf

set_option maxRecDepth 100000
set_option maxHeartbeats 4000000
namespace Vf
open PySem PySem.Spec PyProof.Rows L2 PyProof.V 
def keyD : Key → PyData
  | .inl i => .int i
  | .inr x => .str x
def atomD : V → Option PyData
  | .non => some .none
  | .bl b => some (.bool b)
  | .int i => some (.int i)
  | .str x => some (.str x)
  | _ => none
theorem atom_reads {h : Heap} {v : V} {u : Value} {d : PyData} (e : atomD v = some d) (r : RelV v u) : Reads h u d [] := by
  cases v with
  | non =>
    obtain rfl := Option.some.inj e
    obtain rfl : u = Value.none := r
    exact .none
  | bl b =>
    obtain rfl := Option.some.inj e
    obtain rfl : u = Value.bool b := r
    exact .bool b
  | int i =>
    obtain rfl := Option.some.inj e
    obtain ⟨t, rfl⟩ : ∃ t, u = Value.int i t := r
    exact .int i t
  | str x =>
    obtain rfl := Option.some.inj e
    obtain ⟨t, rfl⟩ : ∃ t, u = Value.str x t := r
    exact .str x t
  | _ => cases e
theorem key_reads {h : Heap} {k : Key} {u : Value} (e : keyIs k u = true) : Reads h u (keyD k) [] := by
  rcases keyIs_shape e with ⟨i, t, rfl, rfl⟩ | ⟨x, t, rfl, rfl⟩
  · exact .int i t
  · exact .str x t
/-- what a dict of atoms reads as -/
inductive FlatD : List (Key × V) → List (PyData × PyData) → Prop
  | nil : FlatD [] []
  | cons {k : Key} {v : V} {d : PyData} {kvs : List (Key × V)} {ds : List (PyData × PyData)} : atomD v = some d → FlatD kvs ds → FlatD ((k, v) :: kvs) ((keyD k, d) :: ds)
theorem pairs_of {h : Heap} : ∀ {kvs : List (Key × V)} {ds : List (PyData × PyData)} {vs : List (Key × Value)}, FlatD kvs ds → KV kvs vs → PairsRead h keyD vs ds []
  | _, _, _, .nil, h => by
    cases h
    exact .nil
  | _, _, _, .cons e f, h => by
    cases h with
    | @cons _ q _ _ h1 h2 =>
      obtain ⟨k', u⟩ := q
      obtain ⟨rfl, r⟩ := h1
      exact .cons (atom_reads e r) (pairs_of f h2)
def rReprFlat : List V → Hp → VK → Prop := fun xs H Q => ∃ (a : Addr) (kvs : List (Key × V)) (ds : List (PyData × PyData)), xs = [.ref a] ∧ H a = some (.dK kvs) ∧ FlatD kvs ds ∧ (PyData.dict ds).showable = true ∧ (PyData.dict ds).depth ≤ 64 ∧ (PyData.dict ds).shown.length ≤ sizeLine ∧ Q (.str (PyData.dict ds).shown) H
theorem cr_reprFlat {X : Cx} (hgd : Calm X.A) {k : Nat} (hr : Room k X.A) : CallR X (.builtin "repr") rReprFlat := by
  intro pins s σ H vs us Q I r h
  obtain ⟨a, kvs, ds, rfl, ha, fl, sh, dep, hz, q⟩ := h
  obtain ⟨u, rfl, r1⟩ := vals1 r
  obtain rfl : u = Value.ref a := r1
  have room := hr.un
  have ok : ObjOk X.prog X.w H s.heap a (.dK kvs) := I.hok a _ ha
  obtain ⟨_, away, ws, kv, dict⟩ := ok
  have rd := reads_dictOf (enc := keyD) (fun k key e => key_reads e) dict (pairs_of fl kv)
  refine repr_of_reads' rd sh (fun _ z => ?_) hgd (by omega) (fun _ _ e => e) (fun h' u tk keep => ?_) hz
  · rw [List.mem_singleton] at z
    rw [← z] at away
    simp at away
  · exact ⟨.str (PyData.dict ds).shown, H, I.kept (t' := tk) keep, ⟨u, rfl⟩, q⟩
end Vf

set_option maxRecDepth 100000
set_option maxHeartbeats 8000000
namespace Vf
open PySem PySem.Spec PyProof.Rows L2
/-- what repr tells of a value -/
inductive ReprIs (K : PySem.W.Frag) (H : Hp) : V → Str → Prop
  | non : ReprIs K H .non "None"
  | bl (b : Bool) : ReprIs K H (.bl b) (if b then "True" else "False")
  | int {i : Int} : i.natAbs.log2 < 1920 → ReprIs K H (.int i) (toString i)
  | str {x : Str} : (PySem.reprText x).length ≤ sizeLine → ReprIs K H (.str x) (PySem.reprText x)
  | dat {a : Addr} {d : PyData} : Dp K H (.ref a) d → d.showable = true → d.hasDict = false → d.depth ≤ 64 → d.shown.length ≤ sizeLine → ReprIs K H (.ref a) d.shown
  | dic {a : Addr} {kvs : List (Key × V)} {ds : List (PyData × PyData)} : H a = some (.dK kvs) → FlatD kvs ds → (PyData.dict ds).showable = true → (PyData.dict ds).depth ≤ 64 → (PyData.dict ds).shown.length ≤ sizeLine → ReprIs K H (.ref a) (PyData.dict ds).shown
theorem cr_reprA {X : Cx} (hgd : Calm X.A) {k : Nat} (hr : Room k X.A) : CallR X (.builtin "repr") (fun xs H Q => ∃ x z, xs = [x] ∧ ReprIs X.K H x z ∧ Q (.str z) H) := by
  intro pins s σ H vs us Q I r h
  obtain ⟨x, z, rfl, hx, q⟩ := h
  cases hx with
  | non =>
    obtain ⟨u, rfl, ru⟩ := vals1 r
    obtain rfl : u = Value.none := ru
    exact PySem.P.repr_of_none ⟨.str _, H, I.tok _, ⟨_, rfl⟩, q⟩
  | bl b =>
    obtain ⟨u, rfl, ru⟩ := vals1 r
    obtain rfl : u = Value.bool b := ru
    exact PySem.P.repr_of_bool ⟨.str _, H, I.tok _, ⟨_, rfl⟩, q⟩
  | int hz =>
    obtain ⟨u, rfl, t, rfl⟩ := vals1 r
    exact PySem.P.repr_of_int hz ⟨.str _, H, I.tok _, ⟨_, rfl⟩, q⟩
  | str hz =>
    obtain ⟨u, rfl, t, rfl⟩ := vals1 r
    exact PySem.P.repr_of_str ⟨.str _, H, I.tok _, ⟨_, rfl⟩, q⟩ hz
  | dat h1 h2 h3 h4 h5 => exact cr_repr hgd hr pins s σ H _ us Q I r ⟨_, _, rfl, h1, h2, h3, h4, h5, q⟩
  | dic h1 h2 h3 h4 h5 => exact cr_reprFlat hgd hr pins s σ H _ us Q I r ⟨_, _, _, rfl, h1, h2, h3, h4, h5, q⟩
end Vf

set_option maxRecDepth 100000
set_option maxHeartbeats 8000000
namespace Vf
open PySem PySem.Spec PyProof.Rows L2
theorem lk_none {sd : Addr} {r : Nat} {t nd : Addr} {m : Str} (h : ¬ m = "_sizes" ∧ ¬ m = "room" ∧ ¬ m = "lines" ∧ ¬ m = "_numbers") : (lflds sd r t nd).lookup m = none := by
  unfold lflds
  rw [lk_ne (beq_eq_false_iff_ne.mpr h.1), lk_ne (beq_eq_false_iff_ne.mpr h.2.1), lk_ne (beq_eq_false_iff_ne.mpr h.2.2.1), lk_ne (beq_eq_false_iff_ne.mpr h.2.2.2)]
  rfl
structure GoodLs (ls : List (List Str)) : Prop where
  few : ls.length ≤ 6
  short : ∀ ws ∈ ls, ws.length ≤ 6
  name : ∀ ws ∈ ls, ∀ z ∈ ws, isNameT z = true
theorem GoodLs.ok {ls : List (List Str)} (g : GoodLs ls) : ∀ ws ∈ ls, ∀ z ∈ ws, PyData.strOk z = true := fun ws hw z hz => ok_name (g.name ws hw z hz)
theorem sh_strs : ∀ {ws : List Str}, (∀ z ∈ ws, isNameT z = true) → shAll (ws.map PyData.str) = true ∧ PyData.weightAll (ws.map PyData.str) ≤ 9 * ws.length
  | [], _ => ⟨rfl, by simp [PyData.weightAll]⟩
  | z :: ws, h => by
    obtain ⟨a, b⟩ := sh_strs (ws := ws) fun y hy => h y (List.mem_cons_of_mem _ hy)
    have hz := h z List.mem_cons_self
    have h8 := (name_len hz).2
    have e : z.cps.size = z.length := rfl
    simp only [List.map_cons, shAll, shD, ok_name hz, a, PyData.weightAll, PyData.weight, List.length_cons, e]
    exact ⟨rfl, by omega⟩
theorem sh_lines : ∀ {ls : List (List Str)}, (∀ ws ∈ ls, ws.length ≤ 6) → (∀ ws ∈ ls, ∀ z ∈ ws, isNameT z = true) → shAll (ls.map lnD) = true ∧ PyData.weightAll (ls.map lnD) ≤ 60 * ls.length
  | [], _, _ => ⟨rfl, by simp [PyData.weightAll]⟩
  | ws :: ls, h1, h2 => by
    obtain ⟨a, b⟩ := sh_lines (ls := ls) (fun y hy => h1 y (List.mem_cons_of_mem _ hy)) fun y hy => h2 y (List.mem_cons_of_mem _ hy)
    obtain ⟨c, d⟩ := sh_strs (h2 ws List.mem_cons_self)
    have := h1 ws List.mem_cons_self
    simp only [List.map_cons, lnD, shAll, shD, c, PyData.weightAll, PyData.weight, List.length_cons, Bool.true_and]
    exact ⟨a, by omega⟩
theorem repr_lines {K : PySem.W.Frag} {H : Hp} {t : Addr} {qs : List (Addr × List Str)} (h : LinesAt H t qs) (g : GoodLs (qs.map Prod.snd)) : ReprIs K H (.ref t) (linesD (qs.map Prod.snd)).shown := by
  obtain ⟨a, b⟩ := sh_lines g.short g.name
  have sh : shD (linesD (qs.map Prod.snd)) = true := by simp only [linesD, shD]; exact a
  obtain ⟨h1, h2, _⟩ := sh_show _ sh
  have few := g.few
  refine .dat h.dp h1 h2 ?_ (shown_fits sh ?_)
  · have := depth_lines (qs.map Prod.snd)
    simp only [linesD, PyData.depth]
    omega
  · simp only [linesD, PyData.weight]
    omega
theorem log_le {n : Nat} (h : n < 1000000) : ((n : Int)).natAbs.log2 < 1920 := (int_short (i := (n : Int)) (by omega) (by omega)).2
theorem wt_int {n : Nat} (h : n ≤ 8) : (if ((n : Int) == 0) = true then 0 else ((n : Int)).natAbs.log2 + 1) ≤ 5 := by
  split
  · omega
  · have h0 : n ≠ 0 := fun z => by simp_all
    have : n.log2 < 4 := (Nat.log2_lt h0).mpr (by omega)
    show n.log2 + 1 ≤ 5
    omega
theorem sh_pairs : ∀ {cs : List (Str × Nat)}, (∀ c ∈ cs, isNameT c.1 = true ∧ c.2 ≤ 8) → shAll (cs.map prD) = true ∧ PyData.weightAll (cs.map prD) ≤ 30 * cs.length ∧ PyData.depthAll (cs.map prD) ≤ 1
  | [], _ => ⟨rfl, by simp [PyData.weightAll], by simp [PyData.depthAll]⟩
  | c :: cs, h => by
    obtain ⟨a, b, d⟩ := sh_pairs (cs := cs) fun y hy => h y (List.mem_cons_of_mem _ hy)
    obtain ⟨hz, h8⟩ := h c List.mem_cons_self
    have l8 := (name_len hz).2
    have e : c.1.cps.size = c.1.length := rfl
    have w5 := wt_int h8
    simp only [List.map_cons, prD, shAll, shD, ok_name hz, PyData.weightAll, PyData.weight, PyData.depthAll, PyData.depth, List.length_cons, e]
    rw [decide_eq_true (p := (0 : Int) ≤ (c.2 : Int)) (by omega), decide_eq_true (p := (c.2 : Int) < 1000000) (by omega)]
    refine ⟨a, ?_, ?_⟩
    · omega
    · omega
theorem dp_pairs {K : PySem.W.Frag} {H : Hp} : ∀ {qs : List (Addr × Str × Nat)}, (∀ q ∈ qs, H q.1 = some (.tup [.str q.2.1, .int (q.2.2 : Int)])) → DpAll K H (qs.map fun q => V.ref q.1) ((qs.map (·.2)).map prD)
  | [], _ => .nil
  | q :: qs, h => .cons (.tup (SqT.of (h q List.mem_cons_self)) (.cons (.str _) (.cons (.int _) .nil))) (dp_pairs fun z hz => h z (List.mem_cons_of_mem _ hz))
theorem repr_pairs {K : PySem.W.Frag} {H : Hp} {l : Addr} {qs : List (Addr × Str × Nat)} (hl : H l = some (.lst (qs.map fun q => V.ref q.1))) (ht : ∀ q ∈ qs, H q.1 = some (.tup [.str q.2.1, .int (q.2.2 : Int)])) (few : qs.length ≤ 6) (g : ∀ c ∈ qs.map (·.2), isNameT c.1 = true ∧ c.2 ≤ 8) :
    ReprIs K H (.ref l) (PyData.list ((qs.map (·.2)).map prD)).shown := by
  obtain ⟨a, b, c⟩ := sh_pairs g
  have sh : shD (PyData.list ((qs.map (·.2)).map prD)) = true := by simp only [shD]; exact a
  obtain ⟨h1, h2, _⟩ := sh_show _ sh
  have hl2 : (qs.map (·.2)).length = qs.length := List.length_map ..
  refine .dat (.lst (SqL.of hl) (dp_pairs ht)) h1 h2 ?_ (shown_fits sh ?_)
  · simp only [PyData.depth]
    omega
  · simp only [PyData.weight]
    omega
theorem linesOf_good {ps : List (Addr × List Str)} {cs : List (Str × Nat)} (g : GoodCs cs) (perm : (ps.flatMap Prod.snd).Perm (cs.map Prod.fst)) (ne : ∀ p ∈ ps, p.2 ≠ []) : GoodLs (linesOf ps) := by
  have l6 : (ps.flatMap Prod.snd).length ≤ 6 := by
    have := perm.length_eq
    rw [List.length_map] at this
    have := g.few
    omega
  have hm : ∀ ws ∈ linesOf ps, ∃ p ∈ ps, ws = srt p.2 := fun ws hw => by
    obtain ⟨p, hp, e⟩ := List.mem_map.mp ((sortL_perm _).mem_iff.mp hw)
    exact ⟨p, hp, e.symm⟩
  refine ⟨?_, fun ws hw => ?_, fun ws hw z hz => ?_⟩
  · unfold linesOf
    rw [(sortL_perm _).length_eq, List.length_map]
    exact Nat.le_trans (flat_len ne) l6
  · obtain ⟨p, hp, rfl⟩ := hm ws hw
    rw [(srt_perm _).length_eq]
    exact Nat.le_trans (flat_part hp) l6
  · obtain ⟨p, hp, rfl⟩ := hm ws hw
    have hz' := perm.mem_iff.mp (List.mem_flatMap.mpr ⟨p, hp, (srt_perm _).mem_iff.mp hz⟩)
    obtain ⟨c, hc, rfl⟩ := List.mem_map.mp hz'
    exact g.name c hc
theorem linesOf_nodup {ps : List (Addr × List Str)} {cs : List (Str × Nat)} (g : GoodCs cs) (perm : (ps.flatMap Prod.snd).Perm (cs.map Prod.fst)) : (linesOf ps).flatten.Nodup := by
  have p1 : (linesOf ps).flatten.Perm (ps.map fun p => srt p.2).flatten := (sortL_perm _).flatten
  have p2 : ∀ ps : List (Addr × List Str), (ps.map fun p => srt p.2).flatten.Perm (ps.flatMap Prod.snd) := fun ps => by
    induction ps with
    | nil => exact .nil
    | cons a r ih =>
      rw [List.map_cons, List.flatten_cons, List.flatMap_cons]
      exact (srt_perm a.2).append ih
  exact ((p1.trans (p2 ps)).trans perm).nodup_iff.mpr g.nd
theorem num_keys : ∀ (ls : List (List Str)) (k : Nat), ((ls.zipIdx k).flatMap fun q => q.1.map fun z => ((Sum.inr z, V.int (q.2 : Int)) : Key × V)).map Prod.fst = ls.flatten.map Sum.inr
  | [], _ => rfl
  | w :: r, k => by
    rw [List.zipIdx_cons, List.flatMap_cons, List.map_append, num_keys r (k + 1), List.flatten_cons, List.map_append, List.map_map]
    rfl
theorem num_val {ls : List (List Str)} (nd : ls.flatten.Nodup) {i : Nat} {ws : List Str} {z : Str} (hi : ls[i]? = some ws) (hz : z ∈ ws) : valV (mergeK [] (numPr ls)) (Sum.inr z) = some (.int (i : Int)) := by
  have hk : ((numPr ls).map Prod.fst).Nodup := by
    unfold numPr
    rw [num_keys ls 0]
    exact nd.map _ fun _ _ h e => h (Sum.inr.inj e)
  rw [merge_nodup _ _ (by rw [List.nil_append]; exact hk), List.nil_append]
  refine val_mem hk ?_
  unfold numPr
  refine List.mem_flatMap.mpr ⟨(ws, i), ?_, List.mem_map.mpr ⟨z, hz, rfl⟩⟩
  exact List.mem_iff_getElem?.mpr ⟨i, by rw [List.getElem?_zipIdx, hi]; simp⟩
theorem srtCs_perm {cs : List (Str × Nat)} (g : GoodCs cs) : (srtCs cs).Perm cs := by
  unfold srtCs
  have e : (cs.map Prod.fst).map (fun z => (z, sizeOfD cs z)) = cs := by
    rw [List.map_map]
    conv => rhs; rw [← List.map_id cs]
    refine List.map_congr_left fun c hc => ?_
    show (c.1, sizeOfD cs c.1) = c
    unfold sizeOfD
    rw [size_of_mem g.nd hc]
    rfl
  exact ((srt_perm (cs.map Prod.fst)).map _).trans (by rw [e])
end Vf

set_option maxRecDepth 100000
set_option maxHeartbeats 8000000
namespace Vf
open PySem PySem.Spec PyProof.Rows L2
section
variable {P : Program} {w : World} {K : PySem.W.Frag} {mg : Str → Option Value} {base : Heap}
def sp_law_order : Sp := fun vs H Q _ => ∃ (l : Addr) (ps : List (Addr × List Str)), vs = [.ref l] ∧ H l = some (.lst (ps.map fun p => V.ref p.1)) ∧ (∀ p ∈ ps, H p.1 = some (.lst (p.2.map V.str)) ∧ p.2 ≠ [] ∧ p.2.length ≤ 6) ∧ ps.length ≤ 6 ∧
  ∀ t rs H', Same H H' → LinesAt H' t rs → rs.map Prod.snd = linesOf ps → Q (.ref t) H'
theorem ok_law_order {f : Addr} {fd : FuncData} (F : Fun K "_law_order" "_law_order" s_law_order f fd) (T : Txt0 K mg) : FnOk P w K mg base CX0 1 f fd p_law_order sp_law_order := by
  refine F.ok sc_law_order (fun vs H Q E h => ?_) (fun cdv A outer s H vs Q E hr h => ?_)
  · obtain ⟨l, ps, rfl, _⟩ := h
    rfl
  · obtain ⟨l, ps, rfl, hl, hps, few, k⟩ := h
    refine ⟨_, pss_one (ps_ret (pe_callTy call_tuple_of (by rfl) T.tuple (by decide +kernel) (pa_cons (pe_callB (cr_sortedD hr) (by rfl) T.sorted (by decide +kernel) (pa_cons
          (pe_lc (own := [("line", 1)]) (g := gName 1) (tt := tYes) rfl sc_law_order.nd (pi_list (pv 0)) (blkOk_by (N := n_law_order) (sc := defScope s_law_order) (by decide +kernel))
            (fun _ _ _ _ _ => pg_name (i := 1) sc_law_order.nd rfl (Or.inl rfl)) (fun _ _ _ _ _ => pts_nil)
            (fun _ _ _ _ _ => pe_callTy (cr_tup (K := K) rfl) (by rfl) T.tuple (by decide +kernel) (pa_cons (pe_callB (r := rSortedS K) cr_sortedS (by rfl) T.sorted (by decide +kernel) (pa_cons (pv 1) pa_nil)) pa_nil))) pa_nil)) pa_nil))), ?_⟩
    have wl : ∀ {a : Addr}, Walk (Itl K a) ps.length (fun H => SqL K H a (ps.map fun p => V.ref p.1)) (YAt (ps.map fun p => V.ref p.1)) := fun {a} => (walk_list (K := K) (a := a) (xs := ps.map fun p => V.ref p.1) |> fun z => by rw [List.length_map] at z; exact z)
    refine ⟨_, rfl, l, rfl, ⟨_, SqL.of hl⟩, fun D hD => lc_ad ps wl hD (fun p v H => ∃ t, v = .ref t ∧ H t = some (.tup ((srt p.2).map V.str))) (by omega) (fun H6 s6 => SqL.of (s6 _ _ hl)) ?_ ?_⟩
    · rintro i a x H6 H7 ha s6 ⟨acc, hacc⟩ ⟨rfl, hx⟩ R hR
      rw [List.getElem?_map, ha] at hx
      obtain rfl : V.ref a.1 = x := Option.some.inj hx
      obtain ⟨h1, h2, h3⟩ := hps a (List.mem_of_getElem? ha)
      refine ⟨rfl, _, rfl, a.1, a.2, rfl, SqL.of (s6 _ _ h1), by omega, fun ys q hy1 hy2 hq => ⟨q, _, rfl, .inl ⟨SqL.of upd_same, fun t ht => ?_⟩⟩⟩
      obtain rfl : ys = srt a.2 := srt_of hy1 hy2
      have sq := same_new (o := .lst ((srt a.2).map V.str)) hq
      refine hR (.ref t) _ (sq.trans (same_new ht)) fun H8 b8 => ⟨t, rfl, b8 t _ (ne_of_none (sq _ _ hacc) ht).symm upd_same⟩
    · intro H6 xs s6 hL hlen hpr
      obtain ⟨qs, rfl, eqs, hqs⟩ := qs_of (H := H6) (ps.map fun p => srt p.2) xs (by rw [hlen, List.length_map]) fun i ws v h1 h2 => by
        rw [List.getElem?_map] at h1
        cases e : ps[i]? with
        | none => rw [e] at h1; cases h1
        | some a =>
          rw [e] at h1
          obtain rfl : srt a.2 = ws := Option.some.inj h1
          exact hpr i a v e h2
      have qne : ∀ q ∈ qs, q.2 ≠ [] := fun q hq z => by
        have hm : q.2 ∈ qs.map Prod.snd := List.mem_map_of_mem hq
        rw [eqs] at hm
        obtain ⟨a, ha, ea⟩ := List.mem_map.mp hm
        have := (srt_perm a.2).length_eq
        rw [show srt a.2 = [] from ea.trans z] at this
        exact (hps a ha).2.1 (List.length_eq_zero_iff.mp this.symm)
      rw [show ∀ σ H Q, tNil σ H Q = Q [] H from fun _ _ _ => rfl]
      refine lines_sorted (K := K) hL hqs (by rw [List.length_map] at hlen; omega) qne fun q2 rs hq2 hrs hin => ⟨q2, _, rfl, .inl ⟨SqL.of upd_same, fun t ht => ?_⟩⟩
      have s7 := (same_new (o := .lst (rs.map fun q => V.ref q.1)) hq2).trans (same_new (o := .tup (rs.map fun q => V.ref q.1)) ht)
      exact k t rs _ (s6.trans s7) ⟨upd_same, fun q hq => s7 _ _ (hqs q (hin q hq))⟩ (by rw [hrs, eqs]; rfl)
/-- what the text says of the class's methods -/
structure LayM (P : Program) (w : World) (K : PySem.W.Frag) (mg : Str → Option Value) (base : Heap) (C : Addr) : Prop where
  cells : ∃ f fd, Meth K C "cells" f ∧ FnOk P w K mg base CX0 1 f fd p_Layout_cells (sp_Layout_cells C) ∧ Binds K fd p_Layout_cells []
  line : ∃ f fd, Meth K C "line_of" f ∧ FnOk P w K mg base CX0 1 f fd p_Layout_line_of (sp_Layout_line_of C) ∧ Binds K fd p_Layout_line_of []
def sp_law_is (C : Addr) : Sp := fun vs H Q _ => ∃ (p sd nd d l : Addr) (cs : List (Str × Nat)) (r : Nat) (ps : List (Addr × List Str)), vs = [.ref p, .ref d, .int (r : Int), .ref l] ∧ LayAt C H p sd nd (srtCs cs) r (linesOf ps) ∧ H d = some (.dK (cellKv cs)) ∧ GoodCs cs ∧ r ≤ 64 ∧ InLines H l cs r ps ∧
  ∀ H', Same H H' → Q (.bl true) H'
theorem ok_law_is {f C : Addr} {fd : FuncData} (F : Fun K "_law_is" "_law_is" s_law_is f fd) (T : Txt0 K mg) (TM : TxtM mg) (TL : TxtL K mg C) (M : LayM P w K mg base C) (GO : OkF P w K mg base CX0 "_law_order" p_law_order 1 sp_law_order) : FnG P w K mg base CX0 2 f fd p_law_is (sp_law_is C) := by
  refine Vf.Fun.okG F sc_law_is (fun vs H Q E h => ?_) (fun cdv A outer s H vs Q E hcm hr h => ?_)
  · obtain ⟨p, sd, nd, d, l, cs, r, ps, rfl, _⟩ := h
    rfl
  · obtain ⟨p, sd, nd, d, l, cs, r, ps, rfl, lay, hd, g, r64, il, k⟩ := h
    obtain ⟨fc, fdc, mc, Fc, bc⟩ := M.cells
    obtain ⟨fl, fdl, ml, Fl, bl⟩ := M.line
    refine ⟨_, pss_cons (ps_set (i := 4) sc_law_is.nd rfl (Or.inl rfl) (pe_fn GO hr rfl pass0 (pa_cons (pv 3) pa_nil)))
      (pss_cons (ps_if (PW.pt (pw_or (pt_cmpR op_ne (pe_callB (cr_reprA hcm hr) (by rfl) TM.repr boot_repr (pa_cons (pe_fld (pv 0) rfl) pa_nil)) (pe_callB (cr_reprA hcm hr) (by rfl) TM.repr boot_repr (pa_cons (pv 4) pa_nil)) (nomark _))
          (pw_or1 (pt_cmpR op_ne (pe_callB (cr_reprA hcm hr) (by rfl) TM.repr boot_repr (pa_cons (pe_fld (pv 0) rfl) pa_nil)) (pe_callB (cr_reprA hcm hr) (by rfl) TM.repr boot_repr (pa_cons (pv 2) pa_nil)) (nomark _))))) (pss_one (ps_ret pe_bl)) pss_nil)
      (pss_cons (ps_if (PW.pt (pw_or (pt_cmpR (op_ne_dictA (Nat.lt_of_le_of_lt (Nat.le_add_right _ 64) hr.units)) (pe_meth0 (pv 0) TL.cl mc Fc hr bc .nil pass0) (pv 1) (nomark _))
          (pw_or1 (pt_cmpR op_ne (pe_callB (cr_reprA hcm hr) (by rfl) TM.repr boot_repr (pa_cons (pe_callB (cr_sortItK rfl hr) (by rfl) T.sorted (by decide +kernel) (pa_cons (pe_ditems (pe_meth0 (pv 0) TL.cl mc Fc hr bc .nil pass0)) pa_nil)) pa_nil))
            (pe_callB (cr_reprA hcm hr) (by rfl) TM.repr boot_repr (pa_cons (pe_callB (cr_sortItK rfl hr) (by rfl) T.sorted (by decide +kernel) (pa_cons (pe_ditems (pv 1)) pa_nil)) pa_nil)) (nomark _))))) (pss_one (ps_ret pe_bl)) pss_nil)
      (pss_cons (ps_for PassesOwn.never rfl (pi_enumT (by rfl) T.enumerate (pa_cons (pv 4) pa_nil)) (pg_tup (by rfl) (pgs_cons (pg_name (i := 5) sc_law_is.nd rfl (Or.inl rfl)) (pgs_cons (pg_name (i := 6) sc_law_is.nd rfl (Or.inl rfl)) pgs_nil)))
        (pss_one (ps_for PassesOwn.never rfl (pi_tup (pv 6)) (pg_name (i := 7) sc_law_is.nd rfl (Or.inl rfl))
          (pss_one (ps_if (pt_cmpR op_ne (pe_callB (cr_reprA hcm hr) (by rfl) TM.repr boot_repr (pa_cons (pe_meth (pv 0) TL.cl ml Fl hr bl .nil pass0 (pa_cons (pv 7) pa_nil)) pa_nil)) (pe_callB (cr_reprA hcm hr) (by rfl) TM.repr boot_repr (pa_cons (pv 5) pa_nil)) (nomark _)) (pss_one (ps_ret pe_bl)) pss_nil)))))
      (pss_one (ps_ret pe_bl))))), ?_⟩
    have l6 := il.len g
    have lp := flat_len fun p hp => (il.each p hp).2.1
    have gls := linesOf_good g il.perm fun p hp => (il.each p hp).2.1
    have gnd := linesOf_nodup g il.perm
    have few := g.few
    have gr := g.some
    have sl := srtCs_len cs
    have sne : srtCs cs ≠ [] := fun z => by
      rw [z] at sl
      exact gr (List.length_eq_zero_iff.mp sl.symm)
    have sp := srtP_same (srtCs_perm g)
    have gpr : ∀ c ∈ srtP cs, isNameT c.1 = true ∧ c.2 ≤ 8 := fun c hc => by
      have := (List.mergeSort_perm cs (PySem.W.dataLe false prD)).mem_iff.mp hc
      exact ⟨g.name c this, (g.size c this).2⟩
    have lpr : (srtP cs).length = cs.length := (List.mergeSort_perm cs (PySem.W.dataLe false prD)).length_eq
    have noC : ¬ (("cells" : Str)) = "_sizes" ∧ ¬ (("cells" : Str)) = "room" ∧ ¬ (("cells" : Str)) = "lines" ∧ ¬ (("cells" : Str)) = "_numbers" := by decide +kernel
    have noL : ¬ (("line_of" : Str)) = "_sizes" ∧ ¬ (("line_of" : Str)) = "room" ∧ ¬ (("line_of" : Str)) = "lines" ∧ ¬ (("line_of" : Str)) = "_numbers" := by decide +kernel
    refine ⟨_, rfl, l, ps, rfl, il.at_, fun p hp => ⟨(il.each p hp).1, (il.each p hp).2.1, Nat.le_trans (flat_part hp) l6⟩, by omega, fun t rs H1 s1 lt ers => ?_⟩
    have lay1 := lay.same s1
    have hd1 := s1 _ _ hd
    obtain ⟨dx, t0, qs, h1, h2, h3, h4, h5⟩ := id lay1
    have R1 : ReprIs K H1 (.ref t0) (linesD (linesOf ps)).shown := by rw [← h5]; exact repr_lines h4 (by rw [h5]; exact gls)
    have R2 : ReprIs K H1 (.ref t) (linesD (linesOf ps)).shown := by rw [← ers]; exact repr_lines lt (by rw [ers]; exact gls)
    have R3 : ReprIs K H1 (.int (r : Int)) (toString (r : Int)) := .int (log_le (by omega))
    refine ⟨_, rfl, p, C, dx, _, _, rfl, h1, TL.cl, TL.nL, lk_lines, _, _, rfl, R1, _, rfl, _, _, rfl, R2, rfl, _, rfl, ?_⟩
    rw [decide_eq_true (p := V.str (linesD (linesOf ps)).shown = V.str (linesD (linesOf ps)).shown) rfl]
    refine iteF ⟨_, rfl, p, C, dx, _, _, rfl, h1, TL.cl, TL.nR, lk_room, _, _, rfl, R3, _, rfl, _, _, rfl, R3, rfl, _, rfl, ?_⟩
    rw [decide_eq_true (p := V.str (toString (r : Int)) = V.str (toString (r : Int))) rfl]
    refine iteF ⟨_, rfl, p, dx, _, rfl, h1, lk_none noC, p, sd, nd, _, _, _, rfl, lay1, fun q hq => ?_⟩
    have sq := same_new (o := .dK (cellKv (srtCs cs))) hq
    have hd2 := sq _ _ hd1
    have lay2 := lay1.same sq
    have lt2 := lt.same sq
    have h12 := sq _ _ h1
    refine ⟨_, rfl, q, d, _, _, rfl, rfl, upd_same, hd2, (by unfold cellKv; rw [List.length_map, List.length_map, sl]), fun c hc => ?_, _, rfl, iteF ?_⟩
    · obtain ⟨c', hc', rfl⟩ := List.mem_map.mp hc
      refine ⟨?_, rfl⟩
      have hm := (srtCs_perm g).mem_iff.mp hc'
      show valV (cellKv cs) (Sum.inr c'.1) = some (V.int (c'.2 : Int))
      rw [valV_cells, size_of_mem g.nd hm]
      rfl
    generalize upd H1 q (.dK (cellKv (srtCs cs))) = H2 at hd2 lay2 lt2 h12 sq ⊢
    have s12 := s1.trans sq
    refine ⟨_, rfl, p, dx, _, rfl, h12, lk_none noC, p, sd, nd, _, _, _, rfl, lay2, fun q3 hq3 => ⟨.inr (.inr (.inl ⟨rfl, .inl ⟨_, upd_same⟩⟩)), q3, _, rfl, rfl, upd_same, fun v3 hv3 => ⟨v3, q3, srtCs cs, rfl, upd_same, same_new hv3 _ _ upd_same, by omega, sne, fun H3 l3 qs3 s3 hl3 e3 t3 p3 => ?_⟩⟩⟩
    have ss3 : Same H2 H3 := ((same_new hq3).trans (same_new hv3)).trans s3
    rw [sp] at p3
    have R4 : ReprIs K H3 (.ref l3) (PyData.list ((srtP cs).map prD)).shown := by
      rw [← p3]
      refine repr_pairs e3 t3 ?_ (by rw [p3]; exact gpr)
      rw [← List.length_map (f := fun q : Addr × Str × Nat => q.2), p3, lpr]
      exact few
    have hd3 := ss3 _ _ hd2
    refine ⟨_, _, rfl, R4, _, rfl, .inr (.inr (.inl ⟨rfl, .inl ⟨_, hd3⟩⟩)), d, _, rfl, rfl, hd3, fun v4 hv4 => ⟨v4, d, cs, rfl, upd_same, same_new hv4 _ _ hd3, by omega, gr, fun H4 l4 qs4 s4 hl4 e4 t4 p4 => ?_⟩⟩
    have ss4 : Same H3 H4 := (same_new hv4).trans s4
    have R5 : ReprIs K H4 (.ref l4) (PyData.list ((srtP cs).map prD)).shown := by
      rw [← p4]
      refine repr_pairs e4 t4 ?_ (by rw [p4]; exact gpr)
      rw [← List.length_map (f := fun q : Addr × Str × Nat => q.2), p4, lpr]
      exact few
    refine ⟨_, _, rfl, R5, rfl, _, rfl, ?_⟩
    rw [decide_eq_true (p := V.str (PyData.list ((srtP cs).map prD)).shown = V.str (PyData.list ((srtP cs).map prD)).shown) rfl]
    have s04 : Same H H4 := s12.trans (ss3.trans ss4)
    have lay4 := lay2.same (ss3.trans ss4)
    have lt4 := lt2.same (ss3.trans ss4)
    have wt : Walk (IteT K t) rs.length (fun H => SqT K H t (rs.map fun q => V.ref q.1)) (YPair (fun i => some (.int (i : Nat))) (fun i => (rs.map fun q => V.ref q.1)[i]?)) := (walk_enumT (K := K) (a := t) (xs := rs.map fun q => V.ref q.1) |> fun z => by rw [List.length_map] at z; exact z)
    refine iteF ⟨_, rfl, t, _, rfl, SqT.of lt4.1, for_it wt (fun i σ H' => ∃ v5 v6 v7, σ = [some (.ref p), some (.ref d), some (.int (r : Int)), some (.ref l), some (.ref t), v5, v6, v7] ∧ Same H4 H') ⟨_, _, _, rfl, Same.refl _⟩ (fun i σ H' _ ⟨_, _, _, _, s⟩ => SqT.of (s _ _ lt4.1)) ?_ ?_⟩
    · rintro i x σ H5 H6 hi ⟨v5, v6, v7, rfl, s5⟩ ⟨T1, x1, x2, rfl, hT1, rfl, hx1, hx2⟩
      have ha : rs[i]? = some rs[i] := List.getElem?_eq_getElem hi
      generalize rs[i] = a at ha
      have hm := List.mem_of_getElem? ha
      obtain rfl : V.int (i : Nat) = x1 := Option.some.inj hx1
      replace hx2 : (rs.map fun q => V.ref q.1)[i]? = some x2 := hx2
      rw [List.getElem?_map, ha] at hx2
      obtain rfl : V.ref a.1 = x2 := Option.some.inj hx2
      have al : (linesOf ps)[i]? = some a.2 := by rw [← ers, List.getElem?_map, ha]; rfl
      have sT := s5.trans (same_new (o := .tup [.int (i : Nat), .ref a.1]) hT1)
      have wa : Walk (Itt K a.1) a.2.length (fun H => SqT K H a.1 (a.2.map V.str)) (YAt (a.2.map V.str)) := (walk_tup (K := K) (a := a.1) (xs := a.2.map V.str) |> fun z => by rw [List.length_map] at z; exact z)
      refine ⟨T1, _, rfl, SqT.of upd_same, rfl, _, _, rfl, _, _, rfl, rfl, _, rfl, a.1, rfl, ⟨_, SqT.of (sT _ _ (lt4.2 a hm))⟩, for_it wa (fun j σ H' => ∃ v7, σ = [some (.ref p), some (.ref d), some (.int (r : Int)), some (.ref l), some (.ref t), some (.int (i : Nat)), some (.ref a.1), v7] ∧ Same H4 H') ⟨_, rfl, sT⟩ (fun j σ H' _ ⟨_, _, s⟩ => SqT.of (s _ _ (lt4.2 a hm))) ?_ ?_⟩
      · rintro j y σ H7 H8 hj ⟨v7', rfl, s7⟩ ⟨rfl, hy⟩
        have hz : a.2[j]? = some a.2[j] := List.getElem?_eq_getElem hj
        generalize a.2[j] = z at hz
        rw [List.getElem?_map, hz] at hy
        obtain rfl : V.str z = y := Option.some.inj hy
        have lay8 := lay4.same s7
        obtain ⟨dx8, t8, qs8, g1, _⟩ := id lay8
        have i6 : i < 6 := by
          have := (List.getElem?_eq_some_iff.mp al).1
          have := gls.few
          omega
        have R6 : ∀ H, ReprIs K H (.int ((i : Nat) : Int)) (toString ((i : Nat) : Int)) := fun H => .int (log_le (by omega))
        refine ⟨_, rfl, p, dx8, _, rfl, g1, lk_none noL, _, rfl, p, sd, nd, _, r, linesOf ps, z, i, rfl, lay8, num_val gnd al (List.mem_of_getElem? hz), _, _, rfl, R6 _, _, rfl, _, _, rfl, R6 _, rfl, _, rfl, ?_⟩
        rw [decide_eq_true (p := V.str (toString ((i : Nat) : Int)) = V.str (toString ((i : Nat) : Int))) rfl]
        exact iteF ⟨_, rfl, s7⟩
      · rintro σ H7 ⟨v7', rfl, s7⟩
        exact ⟨_, _, _, rfl, s7⟩
    · rintro σ H5 ⟨v5, v6, v7, rfl, s5⟩
      exact k _ (s04.trans s5)
end
end Vf

set_option maxRecDepth 100000
set_option maxHeartbeats 8000000
namespace Vf
open PySem PySem.Spec PyProof.Rows L2
theorem total_same {cs : List (Str × Nat)} {a b : List Str} (p : a.Perm b) : total cs a = total cs b := (p.map _).sum_nat
theorem total_sub {a : List (Str × Nat)} (f : Str → Bool) : ∀ ws : List Str, total a (ws.filter f) ≤ total a ws
  | [] => Nat.le_refl _
  | z :: ws => by
    have h2 := total_sub (a := a) f ws
    unfold total at h2 ⊢
    rw [List.map_cons, List.sum_cons, List.filter_cons]
    split
    · rw [List.map_cons, List.sum_cons]
      omega
    · omega
theorem perm_out {z : Str} : ∀ {l : List Str}, l.Nodup → z ∈ l → (l.filter (fun y => decide (y ≠ z)) ++ [z]).Perm l
  | [], _, h => by cases h
  | a :: r, nd, h => by
    have nd' := List.nodup_cons.mp nd
    rw [List.filter_cons]
    by_cases e : a = z
    · subst e
      have e2 : r.filter (fun y => decide (y ≠ a)) = r := List.filter_eq_self.mpr fun y hy => decide_eq_true fun q : y = a => nd'.1 (by rw [← q]; exact hy)
      rw [if_neg (by simp), e2]
      exact List.perm_append_comm (l₁ := r) (l₂ := [a])
    · rw [if_pos (decide_eq_true e)]
      have hz : z ∈ r := (List.mem_cons.mp h).resolve_left fun q => e q.symm
      exact (perm_out nd'.2 hz).cons a
/-- lines of a layout, in order -/
structure LsOk (cs : List (Str × Nat)) (r : Nat) (ls : List (List Str)) : Prop where
  perm : ls.flatten.Perm (cs.map Prod.fst)
  ne : ∀ ws ∈ ls, ws ≠ []
  tot : ∀ ws ∈ ls, total cs ws ≤ r
  ord : sortL (ls.map srt) = ls
theorem lines_flat (ps : List (Addr × List Str)) : (linesOf ps).flatten.Perm (ps.flatMap Prod.snd) := by
  have p1 : (linesOf ps).flatten.Perm (ps.map fun p => srt p.2).flatten := (sortL_perm _).flatten
  have p2 : ∀ ps : List (Addr × List Str), (ps.map fun p => srt p.2).flatten.Perm (ps.flatMap Prod.snd) := fun ps => by
    induction ps with
    | nil => exact .nil
    | cons a r ih =>
      rw [List.map_cons, List.flatten_cons, List.flatMap_cons]
      exact (srt_perm a.2).append ih
  exact p1.trans (p2 ps)
theorem lines_mem {ps : List (Addr × List Str)} {ws : List Str} (h : ws ∈ linesOf ps) : ∃ p ∈ ps, ws = srt p.2 := by
  obtain ⟨p, hp, e⟩ := List.mem_map.mp ((sortL_perm _).mem_iff.mp h)
  exact ⟨p, hp, e.symm⟩
theorem sortL_srt {l : List (List Str)} (h : ∀ ws ∈ l, srt ws = ws) : (sortL l).map srt = sortL l := by
  conv => rhs; rw [← List.map_id (sortL l)]
  exact List.map_congr_left fun ws hw => h ws ((sortL_perm l).mem_iff.mp hw)
theorem lines_ord (ps : List (Addr × List Str)) : sortL ((linesOf ps).map srt) = linesOf ps := by
  unfold linesOf
  rw [sortL_srt fun ws hw => by obtain ⟨p, _, rfl⟩ := List.mem_map.mp hw; exact srt_srt _]
  exact sortL_same (sortL_perm _)
theorem srt_ne {ws : List Str} (h : ws ≠ []) : srt ws ≠ [] := fun e => h (by
  have := (srt_perm ws).length_eq
  rw [e] at this
  exact List.length_eq_zero_iff.mp this.symm)
theorem InLines.ok {H : Hp} {l : Addr} {cs : List (Str × Nat)} {r : Nat} {ps : List (Addr × List Str)} (il : InLines H l cs r ps) : LsOk cs r (linesOf ps) := by
  refine ⟨(lines_flat ps).trans il.perm, fun ws hw => ?_, fun ws hw => ?_, lines_ord ps⟩
  · obtain ⟨p, hp, rfl⟩ := lines_mem hw
    exact srt_ne (il.each p hp).2.1
  · obtain ⟨p, hp, rfl⟩ := lines_mem hw
    rw [total_same (srt_perm p.2)]
    exact (il.each p hp).2.2
def dropZ (z : Str) (ls : List (List Str)) : List (List Str) := ls.map fun ws => ws.filter fun y => decide (y ≠ z)
def putAt (f : List (List Str)) (i : Nat) (z : Str) : List (List Str) := f.set i (f.getD i [] ++ [z])
def full (ls : List (List Str)) : List (List Str) := ls.filter fun ws => decide (ws ≠ [])
/-- the lines behind a move of z to the line i, if it has room -/
def moveL (cs : List (Str × Nat)) (r : Nat) (ls : List (List Str)) (z : Str) (i : Nat) : Option (List (List Str)) :=
  if z ∈ ls.getD i [] then some ls
  else if total cs ((dropZ z ls ++ [[]]).getD i [] ++ [z]) ≤ r then some (full (putAt (dropZ z ls ++ [[]]) i z)) else none
def moveO (cs : List (Str × Nat)) (r : Nat) (ls : List (List Str)) (z : Str) : Option Int → Option (List (List Str))
  | none => none
  | some i => if 0 ≤ i ∧ i ≤ (ls.length : Int) then moveL cs r ls z i.toNat else none
theorem drop_none {z : Str} {ls : List (List Str)} (h : ∀ ws ∈ ls, z ∉ ws) : dropZ z ls = ls := by
  unfold dropZ
  conv => rhs; rw [← List.map_id ls]
  refine List.map_congr_left fun ws hw => ?_
  exact List.filter_eq_self.mpr fun y hy => decide_eq_true fun e : y = z => h ws hw (e ▸ hy)
theorem erase_drop {z : Str} : ∀ {ls : List (List Str)} {j : Nat} {ws : List Str}, ls.flatten.Nodup → ls[j]? = some ws → z ∈ ws → ls.set j (ws.erase z) = dropZ z ls
  | [], _, _, _, h, _ => by simp at h
  | a :: ls, 0, ws, nd, h, hz => by
    obtain rfl : a = ws := by simpa using h
    rw [List.flatten_cons, List.nodup_append] at nd
    have e : dropZ z ls = ls := drop_none fun u hu hzu => nd.2.2 z hz z (List.mem_flatten.mpr ⟨u, hu, hzu⟩) rfl
    show a.erase z :: ls = _
    unfold dropZ at e ⊢
    rw [List.map_cons, e, nd.1.erase_eq_filter]
    congr 1
    refine List.filter_congr fun y _ => ?_
    by_cases q : y = z
    · simp [q]
    · simp [q]
  | a :: ls, j + 1, ws, nd, h, hz => by
    rw [List.flatten_cons, List.nodup_append] at nd
    have hm : ws ∈ ls := List.mem_of_getElem? (by simpa using h)
    have ha : z ∉ a := fun q => nd.2.2 z q z (List.mem_flatten.mpr ⟨ws, hm, hz⟩) rfl
    rw [List.set_cons_succ, erase_drop nd.2.1 (by simpa using h) hz]
    unfold dropZ
    rw [List.map_cons]
    congr 1
    have e9 : a.filter (fun y => decide (y ≠ z)) = a := List.filter_eq_self.mpr fun y hy => decide_eq_true fun e : y = z => ha (e ▸ hy)
    exact e9.symm
theorem drop_flat (z : Str) : ∀ ls : List (List Str), (dropZ z ls).flatten = ls.flatten.filter fun y => decide (y ≠ z)
  | [] => rfl
  | a :: ls => by
    have := drop_flat z ls
    unfold dropZ at this ⊢
    rw [List.map_cons, List.flatten_cons, List.flatten_cons, List.filter_append, this]
theorem put_flat {z : Str} : ∀ {f : List (List Str)} {i : Nat}, i < f.length → (putAt f i z).flatten.Perm (f.flatten ++ [z])
  | [], _, h => by simp at h
  | a :: f, 0, _ => by
    show ((a ++ [z]) ++ f.flatten).Perm (a ++ f.flatten ++ [z])
    rw [List.append_assoc, List.append_assoc]
    exact (List.perm_append_comm (l₁ := [z]) (l₂ := f.flatten)).append_left a
  | a :: f, i + 1, h => by
    have := put_flat (z := z) (f := f) (i := i) (by simpa using h)
    show (a ++ (putAt f i z).flatten).Perm (a ++ f.flatten ++ [z])
    rw [List.append_assoc]
    exact this.append_left a
theorem full_flat2 : ∀ ls : List (List Str), (full ls).flatten = ls.flatten
  | [] => rfl
  | [] :: ls => by
    have := full_flat2 ls
    unfold full at this ⊢
    rw [List.filter_cons_of_neg (by simp), this]
    rfl
  | (a :: b) :: ls => by
    have := full_flat2 ls
    unfold full at this ⊢
    rw [List.filter_cons_of_pos (by simp), List.flatten_cons, List.flatten_cons, this]
theorem full_ne {ls : List (List Str)} {ws : List Str} (h : ws ∈ full ls) : ws ≠ [] := of_decide_eq_true (List.mem_filter.mp h).2
theorem drop_get {z : Str} {ls : List (List Str)} {i : Nat} : (dropZ z ls ++ [[]]).getD i [] = (ls.getD i []).filter fun y => decide (y ≠ z) := by
  unfold dropZ
  rw [List.getD_eq_getElem?_getD, List.getD_eq_getElem?_getD]
  by_cases h : i < ls.length
  · rw [List.getElem?_append_left (by simpa using h), List.getElem?_map]
    cases ls[i]? with
    | none => rfl
    | some a => rfl
  · rw [List.getElem?_append_right (by simp; omega), List.getElem?_eq_none (l := ls) (by omega)]
    generalize i - (ls.map fun ws => ws.filter fun y => decide (y ≠ z)).length = k
    cases k with
    | zero => rfl
    | succ k => simp
/-- what a move makes: all the cells, in lines with room -/
theorem put_good {cs : List (Str × Nat)} {r : Nat} {ls : List (List Str)} {z : Str} {i : Nat} (o : LsOk cs r ls) (g : GoodCs cs) (hz : z ∈ cs.map Prod.fst) (hi : i ≤ ls.length) (hr : total cs ((dropZ z ls ++ [[]]).getD i [] ++ [z]) ≤ r) :
    (full (putAt (dropZ z ls ++ [[]]) i z)).flatten.Perm (cs.map Prod.fst) ∧ ∀ ws ∈ full (putAt (dropZ z ls ++ [[]]) i z), ws ≠ [] ∧ total cs ws ≤ r := by
  have nd : ls.flatten.Nodup := o.perm.nodup_iff.mpr g.nd
  refine ⟨?_, fun ws hw => ⟨full_ne hw, ?_⟩⟩
  · rw [full_flat2]
    refine (put_flat (by rw [List.length_append]; unfold dropZ; rw [List.length_map]; show i < ls.length + 1; omega)).trans ?_
    rw [List.flatten_append, drop_flat]
    show (ls.flatten.filter _ ++ [] ++ [z]).Perm _
    rw [List.append_nil]
    exact (perm_out nd (o.perm.mem_iff.mpr hz)).trans o.perm
  · have hw' := (List.mem_filter.mp hw).1
    unfold putAt at hw'
    rcases List.mem_or_eq_of_mem_set hw' with h | rfl
    · rcases List.mem_append.mp h with h | h
      · obtain ⟨u, hu, rfl⟩ := List.mem_map.mp h
        exact Nat.le_trans (total_sub _ u) (o.tot u hu)
      · rw [List.mem_singleton.mp h]
        exact Nat.zero_le _
    · exact hr
theorem get_in {ls : List (List Str)} {i : Nat} {z : Str} (h : z ∈ ls.getD i []) : ∃ ws, ls[i]? = some ws ∧ z ∈ ws := by
  rw [List.getD_eq_getElem?_getD] at h
  cases e : ls[i]? with
  | none => rw [e] at h; cases h
  | some ws => rw [e] at h; exact ⟨ws, rfl, h⟩
/-- the program's lines are those of the move, in order -/
theorem move_eq {cs : List (Str × Nat)} {r : Nat} {ls m : List (List Str)} {z : Str} {i : Nat} (o : LsOk cs r ls) (g : GoodCs cs) (h : moveL cs r ls z i = some m) :
    total cs ((dropZ z ls ++ [[]]).getD i [] ++ [z]) ≤ r ∧ sortL ((full (putAt (dropZ z ls ++ [[]]) i z)).map srt) = sortL (m.map srt) := by
  have nd : ls.flatten.Nodup := o.perm.nodup_iff.mpr g.nd
  unfold moveL at h
  by_cases hz : z ∈ ls.getD i []
  · rw [if_pos hz] at h
    obtain rfl : ls = m := Option.some.inj h
    obtain ⟨ws, hw, hzw⟩ := get_in hz
    have hm := List.mem_of_getElem? hw
    have nw : ws.Nodup := nd.sublist (List.sublist_flatten_of_mem hm)
    have e : ls.getD i [] = ws := by rw [List.getD_eq_getElem?_getD, hw]; rfl
    have po := perm_out nw hzw
    refine ⟨by rw [drop_get, e, total_same po]; exact o.tot ws hm, ?_⟩
    have hl : i < ls.length := (List.getElem?_eq_some_iff.mp hw).1
    have e2 : putAt (dropZ z ls ++ [[]]) i z = putAt (dropZ z ls) i z ++ [[]] := by
      have hl2 : i < (dropZ z ls).length := by unfold dropZ; rw [List.length_map]; exact hl
      unfold putAt
      rw [List.set_append_left _ _ hl2, List.getD_eq_getElem?_getD, List.getElem?_append_left hl2, ← List.getD_eq_getElem?_getD]
    have e3 : (putAt (dropZ z ls) i z).map srt = ls.map srt := by
      rw [← erase_drop nd hw hzw]
      unfold putAt
      rw [List.set_set, List.map_set, List.getD_eq_getElem?_getD, List.getElem?_set_self hl]
      have : srt (ws.erase z ++ [z]) = srt ws := srt_same (by
        have : ws.erase z = ws.filter fun y => decide (y ≠ z) := by
          rw [nw.erase_eq_filter]
          refine List.filter_congr fun y _ => ?_
          by_cases q : y = z
          · simp [q]
          · simp [q]
        rw [this]
        exact po)
      show (ls.map srt).set i (srt (ws.erase z ++ [z])) = _
      rw [this]
      refine List.ext_getElem? fun k => ?_
      by_cases hk : k = i
      · subst hk
        rw [List.getElem?_set_self (by rw [List.length_map]; exact hl), List.getElem?_map, hw]
        rfl
      · rw [List.getElem?_set_ne (Ne.symm hk)]
    have ne : ∀ ws ∈ putAt (dropZ z ls) i z, ws ≠ [] := fun u hu e4 => by
      have : srt u ∈ ls.map srt := by rw [← e3]; exact List.mem_map_of_mem hu
      obtain ⟨v, hv, ev⟩ := List.mem_map.mp this
      have h1 := (srt_perm u).length_eq
      have h2 := (srt_perm v).length_eq
      rw [ev] at h2
      rw [(srt_perm u).length_eq, e4] at h2
      exact o.ne v hv (List.length_eq_zero_iff.mp h2.symm)
    rw [e2]
    unfold full
    rw [List.filter_append, List.filter_eq_self.mpr fun u hu => decide_eq_true (ne u hu)]
    show sortL ((putAt (dropZ z ls) i z ++ []).map srt) = _
    rw [List.append_nil, e3]
  · rw [if_neg hz] at h
    by_cases hr : total cs ((dropZ z ls ++ [[]]).getD i [] ++ [z]) ≤ r
    · rw [if_pos hr] at h
      exact ⟨hr, by rw [← Option.some.inj h]⟩
    · rw [if_neg hr] at h
      cases h
theorem move_no {cs : List (Str × Nat)} {r : Nat} {ls : List (List Str)} {z : Str} {i : Nat} (h : moveL cs r ls z i = none) : ¬ total cs ((dropZ z ls ++ [[]]).getD i [] ++ [z]) ≤ r := by
  unfold moveL at h
  by_cases hz : z ∈ ls.getD i []
  · rw [if_pos hz] at h
    cases h
  · rw [if_neg hz] at h
    by_cases hr : total cs ((dropZ z ls ++ [[]]).getD i [] ++ [z]) ≤ r
    · rw [if_pos hr] at h
      cases h
    · exact hr
theorem num_none {ls : List (List Str)} (nd : ls.flatten.Nodup) {z : Str} (hz : z ∉ ls.flatten) : valV (mergeK [] (numPr ls)) (Sum.inr z) = none := by
  have hk : ((numPr ls).map Prod.fst).Nodup := by
    unfold numPr
    rw [num_keys ls 0]
    exact nd.map _ fun _ _ h e => h (Sum.inr.inj e)
  rw [merge_nodup _ _ (by rw [List.nil_append]; exact hk), List.nil_append]
  refine val_none fun h => ?_
  unfold numPr at h
  rw [num_keys ls 0] at h
  obtain ⟨y, hy, e⟩ := List.mem_map.mp h
  exact hz (Sum.inr.inj e ▸ hy)
theorem size_srtCs {cs : List (Str × Nat)} (g : GoodCs cs) (z : Str) : sizeOfD (srtCs cs) z = sizeOfD cs z := by
  have p := srtCs_perm g
  have g2 : ((srtCs cs).map Prod.fst).Nodup := (p.map Prod.fst).nodup_iff.mpr g.nd
  by_cases h : z ∈ cs.map Prod.fst
  · obtain ⟨c, hc, rfl⟩ := List.mem_map.mp h
    unfold sizeOfD
    rw [size_of_mem g.nd hc, size_of_mem g2 (p.mem_iff.mpr hc)]
  · have no : ∀ l : List (Str × Nat), z ∉ l.map Prod.fst → sizeOf? l z = none := fun l hl => by
      unfold sizeOf?
      rw [List.find?_eq_none.mpr fun c hc e => hl (List.mem_map.mpr ⟨c, hc, of_decide_eq_true e⟩)]
      rfl
    unfold sizeOfD
    rw [no _ h, no _ fun q => h ((p.map Prod.fst).mem_iff.mp q)]
theorem total_srtCs {cs : List (Str × Nat)} (g : GoodCs cs) : total (srtCs cs) = total cs := by
  funext ws
  unfold total
  exact congrArg List.sum (List.map_congr_left fun z _ => size_srtCs g z)
theorem move_srtCs {cs : List (Str × Nat)} (g : GoodCs cs) {r : Nat} {ls : List (List Str)} {z : Str} {o : Option Int} : moveO (srtCs cs) r ls z o = moveO cs r ls z o := by
  cases o with
  | none => rfl
  | some i =>
    unfold moveO moveL
    rw [total_srtCs g]
end Vf

set_option maxRecDepth 100000
set_option maxHeartbeats 4000000
namespace Vf
open PySem PySem.Spec PyProof.Rows L2
theorem nodup_mapOn {α β : Type} (f : α → β) : ∀ {l : List α}, l.Nodup → (∀ a ∈ l, ∀ b ∈ l, f a = f b → a = b) → (l.map f).Nodup
  | [], _, _ => List.nodup_nil
  | a :: l, h, hi => by
    have h' := List.nodup_cons.mp h
    rw [List.map_cons, List.nodup_cons]
    refine ⟨fun z => ?_, nodup_mapOn f h'.2 fun x hx y hy => hi x (List.mem_cons_of_mem _ hx) y (List.mem_cons_of_mem _ hy)⟩
    obtain ⟨b, hb, e⟩ := List.mem_map.mp z
    have := hi b (List.mem_cons_of_mem _ hb) a List.mem_cons_self e
    exact h'.1 (this ▸ hb)
theorem nodup_bind {α β : Type} {f : α → List β} : ∀ {l : List α}, l.Nodup → (∀ a ∈ l, (f a).Nodup) → (∀ a ∈ l, ∀ b ∈ l, ∀ x, x ∈ f a → x ∈ f b → a = b) → (l.flatMap f).Nodup
  | [], _, _, _ => List.nodup_nil
  | a :: l, h, h1, h2 => by
    have h' := List.nodup_cons.mp h
    rw [List.flatMap_cons, List.nodup_append]
    refine ⟨h1 a List.mem_cons_self, nodup_bind h'.2 (fun b hb => h1 b (List.mem_cons_of_mem _ hb)) (fun b hb c hc => h2 b (List.mem_cons_of_mem _ hb) c (List.mem_cons_of_mem _ hc)), fun x hx y hy e => ?_⟩
    obtain ⟨b, hb, hyb⟩ := List.mem_flatMap.mp hy
    exact h'.1 (h2 a List.mem_cons_self b (List.mem_cons_of_mem _ hb) x hx (e ▸ hyb) ▸ hb)
theorem nodup_fm {α β : Type} (f : α → Option β) : ∀ {l : List α}, l.Nodup → (∀ a ∈ l, ∀ b ∈ l, ∀ x, f a = some x → f b = some x → a = b) → (l.filterMap f).Nodup
  | [], _, _ => List.nodup_nil
  | a :: l, h, hi => by
    have h' := List.nodup_cons.mp h
    have ih := nodup_fm f h'.2 fun x hx y hy => hi x (List.mem_cons_of_mem _ hx) y (List.mem_cons_of_mem _ hy)
    cases e : f a with
    | none => rw [List.filterMap_cons_none e]; exact ih
    | some x =>
      rw [List.filterMap_cons_some e, List.nodup_cons]
      refine ⟨fun z => ?_, ih⟩
      obtain ⟨b, hb, eb⟩ := List.mem_filterMap.mp z
      exact h'.1 (hi a List.mem_cons_self b (List.mem_cons_of_mem _ hb) x e eb ▸ hb)
def ltS (a b : Str) : Prop := leS a b = true ∧ a ≠ b
theorem ltS.trans {a b c : Str} (h1 : ltS a b) (h2 : ltS b c) : ltS a c :=
  ⟨leS_trans _ _ _ h1.1 h2.1, fun e => h1.2 (leS_anti h1.1 (e ▸ h2.1))⟩
theorem ltS.ne {a b : Str} (h : ltS a b) : a ≠ b := h.2
theorem ltS.asym {a b : Str} (h1 : ltS a b) (h2 : ltS b a) : False := h1.2 (leS_anti h1.1 h2.1)
theorem asc_nodup {l : List Str} (h : l.Pairwise ltS) : l.Nodup := List.Pairwise.imp (fun h => h.2) h
theorem srt_asc {l : List Str} (h : l.Nodup) : (srt l).Pairwise ltS := by
  have h1 := srt_pw l
  have h2 : (srt l).Nodup := (srt_perm l).nodup_iff.mpr h
  exact List.Pairwise.imp₂ (fun _ _ a b => ⟨a, b⟩) h1 h2
theorem asc_srt {l : List Str} (h : l.Pairwise ltS) : srt l = l := srt_uniq (srt_pw l) (List.Pairwise.imp (fun h => h.1) h) (srt_perm l)
def hdLt (a b : List Str) : Prop := ∀ x xs y ys, a = x :: xs → b = y :: ys → ltS x y
/-- a partition of names into lines, in order -/
structure Part (fit : List Str → Bool) (ns : List Str) (way : List (List Str)) : Prop where
  perm : way.flatten.Perm ns
  ne : ∀ ws ∈ way, ws ≠ []
  asc : ∀ ws ∈ way, ws.Pairwise ltS
  fits : ∀ ws ∈ way, fit ws = true
  head : way.Pairwise hdLt
section
variable {fit : List Str → Bool}
def putI (fit : List Str → Bool) (z : Str) (way : List (List Str)) (i : Nat) : Option (List (List Str)) := if fit (way.getD i [] ++ [z]) then some (way.set i (way.getD i [] ++ [z])) else none
def withC (fit : List Str → Bool) (z : Str) (way : List (List Str)) : List (List (List Str)) := (List.range way.length).filterMap (putI fit z way) ++ (if fit [z] then [way ++ [[z]]] else [])
def waysF (fit : List Str → Bool) (ns : List Str) : List (List (List Str)) := ns.foldl (fun ways z => ways.flatMap (withC fit z)) [[]]
theorem ways_snoc (ns : List Str) (z : Str) : waysF fit (ns ++ [z]) = (waysF fit ns).flatMap (withC fit z) := by
  unfold waysF
  rw [List.foldl_append]
  rfl
theorem mem_withC {z : Str} {way way' : List (List Str)} : way' ∈ withC fit z way ↔ (∃ i l, way[i]? = some l ∧ fit (l ++ [z]) = true ∧ way' = way.set i (l ++ [z])) ∨ (fit [z] = true ∧ way' = way ++ [[z]]) := by
  unfold withC
  rw [List.mem_append]
  refine or_congr ⟨fun h => ?_, fun h => ?_⟩ ?_
  · obtain ⟨i, hi, e⟩ := List.mem_filterMap.mp h
    have hl := List.mem_range.mp hi
    unfold putI at e
    have eg : way.getD i [] = way[i] := by rw [List.getD_eq_getElem?_getD, List.getElem?_eq_getElem hl]; rfl
    rw [eg] at e
    by_cases hf : fit (way[i] ++ [z]) = true
    · rw [if_pos hf] at e
      exact ⟨i, way[i], List.getElem?_eq_getElem hl, hf, (Option.some.inj e).symm⟩
    · rw [if_neg hf] at e
      cases e
  · obtain ⟨i, l, hl, hf, rfl⟩ := h
    refine List.mem_filterMap.mpr ⟨i, List.mem_range.mpr (List.getElem?_eq_some_iff.mp hl).1, ?_⟩
    unfold putI
    rw [List.getD_eq_getElem?_getD, hl]
    exact if_pos hf
  · by_cases hf : fit [z] = true
    · rw [if_pos hf, List.mem_singleton]
      exact ⟨fun e => ⟨hf, e⟩, fun e => e.2⟩
    · rw [if_neg hf]
      exact ⟨(fun h => nomatch h), fun h => absurd h.1 hf⟩
theorem set_flat2 {z : Str} : ∀ {way : List (List Str)} {i : Nat} {l : List Str}, way[i]? = some l → (way.set i (l ++ [z])).flatten.Perm (way.flatten ++ [z])
  | [], _, _, h => by simp at h
  | a :: w, 0, l, h => by
    obtain rfl : a = l := by simpa using h
    show ((a ++ [z]) ++ w.flatten).Perm (a ++ w.flatten ++ [z])
    rw [List.append_assoc, List.append_assoc]
    exact (List.perm_append_comm (l₁ := [z]) (l₂ := w.flatten)).append_left a
  | a :: w, i + 1, l, h => by
    have := set_flat2 (z := z) (way := w) (i := i) (l := l) (by simpa using h)
    show (a ++ (w.set i (l ++ [z])).flatten).Perm (a ++ w.flatten ++ [z])
    rw [List.append_assoc]
    exact this.append_left a
theorem pw_set {R : List Str → List Str → Prop} {x : List Str} : ∀ {way : List (List Str)} {i : Nat} {l : List Str}, way[i]? = some l → way.Pairwise R → (∀ a, R a l → R a x) → (∀ b, R l b → R x b) → (way.set i x).Pairwise R
  | [], _, _, h, _, _, _ => by simp at h
  | a :: w, 0, l, h, hp, _, h2 => by
    obtain rfl : a = l := by simpa using h
    rw [List.pairwise_cons] at hp
    show (x :: w).Pairwise R
    exact List.pairwise_cons.mpr ⟨fun b hb => h2 b (hp.1 b hb), hp.2⟩
  | a :: w, i + 1, l, h, hp, h1, h2 => by
    rw [List.pairwise_cons] at hp
    have hw : w[i]? = some l := by simpa using h
    show (a :: w.set i x).Pairwise R
    refine List.pairwise_cons.mpr ⟨fun b hb => ?_, pw_set hw hp.2 h1 h2⟩
    rcases List.mem_or_eq_of_mem_set hb with hb | rfl
    · exact hp.1 b hb
    · exact h1 a (hp.1 l (List.mem_of_getElem? hw))
theorem head_app {l t : List Str} (h : l ≠ []) : ∃ x xs, l = x :: xs ∧ ∃ ys, l ++ t = x :: ys := by
  cases l with
  | nil => exact absurd rfl h
  | cons x xs => exact ⟨x, xs, rfl, xs ++ t, rfl⟩
theorem part_more {ns : List Str} {z : Str} {way way' : List (List Str)} (p : Part fit ns way) (hz : ∀ y ∈ ns, ltS y z) (h : way' ∈ withC fit z way) : Part fit (ns ++ [z]) way' := by
  have inn : ∀ ws ∈ way, ∀ y ∈ ws, y ∈ ns := fun ws hw y hy => p.perm.mem_iff.mp (List.mem_flatten.mpr ⟨ws, hw, hy⟩)
  rcases mem_withC.mp h with ⟨i, l, hl, hf, rfl⟩ | ⟨hf, rfl⟩
  · have hm := List.mem_of_getElem? hl
    have asc : (l ++ [z]).Pairwise ltS := List.pairwise_append.mpr ⟨p.asc l hm, List.pairwise_singleton _ _, fun a ha b hb => by rw [List.mem_singleton.mp hb]; exact hz a (inn l hm a ha)⟩
    refine ⟨(set_flat2 hl).trans (p.perm.append_right _), fun ws hw => ?_, fun ws hw => ?_, fun ws hw => ?_, pw_set hl p.head ?_ ?_⟩
    · rcases List.mem_or_eq_of_mem_set hw with hw | rfl
      · exact p.ne ws hw
      · simp
    · rcases List.mem_or_eq_of_mem_set hw with hw | rfl
      · exact p.asc ws hw
      · exact asc
    · rcases List.mem_or_eq_of_mem_set hw with hw | rfl
      · exact p.fits ws hw
      · exact hf
    · intro a ha x xs y ys ea eb
      obtain ⟨y2, ys2, e2, ys3, e3⟩ := head_app (t := [z]) (p.ne l hm)
      rw [e3] at eb
      injection eb with eb _
      exact eb ▸ ha x xs y2 ys2 ea e2
    · intro b hb x xs y ys ea eb
      obtain ⟨y2, ys2, e2, ys3, e3⟩ := head_app (t := [z]) (p.ne l hm)
      rw [e3] at ea
      injection ea with ea _
      exact ea ▸ hb y2 ys2 y ys e2 eb
  · refine ⟨?_, fun ws hw => ?_, fun ws hw => ?_, fun ws hw => ?_, List.pairwise_append.mpr ⟨p.head, List.pairwise_singleton _ _, fun a ha b hb x xs y ys ea eb => ?_⟩⟩
    · rw [List.flatten_append]
      exact p.perm.append_right _
    · rcases List.mem_append.mp hw with hw | hw
      · exact p.ne ws hw
      · rw [List.mem_singleton.mp hw]; simp
    · rcases List.mem_append.mp hw with hw | hw
      · exact p.asc ws hw
      · rw [List.mem_singleton.mp hw]; exact List.pairwise_singleton _ _
    · rcases List.mem_append.mp hw with hw | hw
      · exact p.fits ws hw
      · rw [List.mem_singleton.mp hw]; exact hf
    · rw [List.mem_singleton.mp hb] at eb
      injection eb with eb _
      exact eb ▸ hz x (inn a ha x (ea ▸ List.mem_cons_self))
theorem set_back {z : Str} {a : List Str} : ∀ {way : List (List Str)} {i : Nat}, way[i]? = some (a ++ [z]) → (way.set i a).flatten.Perm (way.flatten.erase z) ∨ z ∉ way.flatten
  | way, i, h => by
    have h2 : (way.set i a)[i]? = some a := by
      rw [List.getElem?_set_self (List.getElem?_eq_some_iff.mp h).1]
    have := set_flat2 (z := z) h2
    rw [List.set_set] at this
    have e : way.set i (a ++ [z]) = way := by
      refine List.ext_getElem? fun k => ?_
      by_cases hk : k = i
      · subst hk
        rw [List.getElem?_set_self (List.getElem?_eq_some_iff.mp h).1, h]
      · rw [List.getElem?_set_ne (Ne.symm hk)]
    rw [e] at this
    have q := (this.erase z)
    refine .inl ?_
    have h3 : ((way.set i a).flatten ++ [z]).Perm (z :: (way.set i a).flatten) := List.perm_append_comm (l₂ := [z])
    have h4 := (this.trans h3).erase z
    rw [List.erase_cons_head] at h4
    exact h4.symm
theorem part_less {ns : List Str} {z : Str} {way' : List (List Str)} (mono : ∀ a z, fit (a ++ [z]) = true → fit a = true) (hns : ns.Pairwise ltS) (hz : ∀ y ∈ ns, ltS y z) (p : Part fit (ns ++ [z]) way') : ∃ way, Part fit ns way ∧ way' ∈ withC fit z way := by
  have zn : z ∉ ns := fun h => (hz z h).2 rfl
  have nd : (ns ++ [z]).Nodup := asc_nodup (List.pairwise_append.mpr ⟨hns, List.pairwise_singleton _ _, fun a ha b hb => by rw [List.mem_singleton.mp hb]; exact hz a ha⟩)
  have ndf : way'.flatten.Nodup := p.perm.nodup_iff.mpr nd
  obtain ⟨l, hl, hzl⟩ := List.mem_flatten.mp (p.perm.mem_iff.mpr (List.mem_append.mpr (.inr List.mem_cons_self)) : z ∈ way'.flatten)
  obtain ⟨i, hi⟩ := List.mem_iff_getElem?.mp hl
  have inn : ∀ ws ∈ way', ∀ y ∈ ws, y = z ∨ y ∈ ns := fun ws hw y hy => by
    rcases List.mem_append.mp (p.perm.mem_iff.mp (List.mem_flatten.mpr ⟨ws, hw, hy⟩)) with h | h
    · exact .inr h
    · exact .inl (List.mem_singleton.mp h)
  have ermv : (way'.flatten.erase z).Perm ns := by
    have h := p.perm.erase z
    rw [List.erase_append_right _ zn, List.erase_cons_head, List.append_nil] at h
    exact h
  obtain ⟨a, b, hab⟩ := List.append_of_mem hzl
  have al := p.asc l hl
  have hb : b = [] := by
    cases b with
    | nil => rfl
    | cons y b =>
      rw [hab] at al
      have h1 : ltS z y := (List.pairwise_cons.mp (List.pairwise_append.mp al).2.1).1 y List.mem_cons_self
      rcases inn l hl y (by rw [hab]; simp) with e | e
      · exact absurd e.symm h1.2
      · exact (h1.asym (hz y e)).elim
  subst hb
  cases a with
  | nil =>
    -- its own line, the last one
    have e1 : l = [z] := hab
    subst e1
    have hlast : i + 1 = way'.length := by
      have hlt := (List.getElem?_eq_some_iff.mp hi).1
      by_cases h : i + 1 < way'.length
      · have hm : way'[i + 1] ∈ way' := List.getElem_mem h
        have hd := List.pairwise_iff_getElem.mp p.head i (i + 1) hlt h (Nat.lt_succ_self i)
        have ei : way'[i] = [z] := (List.getElem?_eq_some_iff.mp hi).2
        cases e : way'[i + 1] with
        | nil => exact absurd e (p.ne _ hm)
        | cons y ys =>
          have h1 := hd z [] y ys ei e
          rcases inn _ hm y (by rw [e]; exact List.mem_cons_self) with q | q
          · exact absurd q.symm h1.2
          · exact (h1.asym (hz y q)).elim
      · omega
    have ew : way' = way'.take i ++ [[z]] := by
      conv => lhs; rw [← List.take_append_drop i way']
      congr 1
      have hlt := (List.getElem?_eq_some_iff.mp hi).1
      rw [List.drop_eq_getElem_cons hlt, List.drop_eq_nil_of_le (by omega), (List.getElem?_eq_some_iff.mp hi).2]
    have hsub : ∀ ws ∈ way'.take i, ws ∈ way' := fun ws hw => List.mem_of_mem_take hw
    refine ⟨way'.take i, ⟨?_, fun ws hw => p.ne ws (hsub ws hw), fun ws hw => p.asc ws (hsub ws hw), fun ws hw => p.fits ws (hsub ws hw), p.head.sublist (List.take_sublist i way')⟩, mem_withC.mpr (.inr ⟨p.fits [z] hl, ew⟩)⟩
    have h := ermv
    rw [ew, List.flatten_append] at h
    have zt : z ∉ (way'.take i).flatten := fun q => by
      rw [ew, List.flatten_append, List.nodup_append] at ndf
      exact ndf.2.2 z q z (by simp) rfl
    rw [List.erase_append_right _ zt] at h
    simpa using h
  | cons c a =>
    have hf := p.fits l hl
    rw [hab] at hi hf al
    have hlt := (List.getElem?_eq_some_iff.mp hi).1
    have back : way' = (way'.set i (c :: a)).set i ((c :: a) ++ [z]) := by
      rw [List.set_set]
      refine List.ext_getElem? fun k => ?_
      by_cases hk : k = i
      · subst hk
        rw [List.getElem?_set_self hlt, hi]
      · rw [List.getElem?_set_ne (Ne.symm hk)]
    refine ⟨way'.set i (c :: a), ⟨?_, fun ws hw => ?_, fun ws hw => ?_, fun ws hw => ?_, pw_set hi p.head ?_ ?_⟩, mem_withC.mpr (.inl ⟨i, c :: a, List.getElem?_set_self hlt, hf, back⟩)⟩
    · rcases set_back hi with h | h
      · exact h.trans ermv
      · exact absurd (List.mem_flatten.mpr ⟨l, hl, hzl⟩) h
    · rcases List.mem_or_eq_of_mem_set hw with hw | rfl
      · exact p.ne ws hw
      · simp
    · rcases List.mem_or_eq_of_mem_set hw with hw | rfl
      · exact p.asc ws hw
      · exact (List.pairwise_append.mp al).1
    · rcases List.mem_or_eq_of_mem_set hw with hw | rfl
      · exact p.fits ws hw
      · exact mono _ _ hf
    · intro b hb x xs y ys ea eb
      injection eb with e _
      exact e ▸ hb x xs c (a ++ [z]) ea rfl
    · intro b hb x xs y ys ea eb
      injection ea with e _
      exact e ▸ hb c (a ++ [z]) y ys rfl eb
/-- what a way was, ahead of the cell z -/
def delC (z : Str) (way : List (List Str)) : List (List Str) := (way.map fun ws => ws.filter fun y => decide (y ≠ z)).filter fun ws => decide (ws ≠ [])
theorem no_filter {z : Str} {ws : List Str} (h : z ∉ ws) : (ws.filter fun y => decide (y ≠ z)) = ws := List.filter_eq_self.mpr fun y hy => decide_eq_true fun e : y = z => h (e ▸ hy)
theorem map_no {z : Str} {way : List (List Str)} (h : ∀ ws ∈ way, z ∉ ws) : (way.map fun ws => ws.filter fun y => decide (y ≠ z)) = way := by
  conv => rhs; rw [← List.map_id way]
  exact List.map_congr_left fun ws hw => no_filter (h ws hw)
theorem del_with {z : Str} {way way' : List (List Str)} (hn : ∀ ws ∈ way, z ∉ ws) (ne : ∀ ws ∈ way, ws ≠ []) (h : way' ∈ withC fit z way) : delC z way' = way := by
  have keep : (way.filter fun ws => decide (ws ≠ [])) = way := List.filter_eq_self.mpr fun ws hw => decide_eq_true (ne ws hw)
  rcases mem_withC.mp h with ⟨i, l, hl, hf, rfl⟩ | ⟨hf, rfl⟩
  · unfold delC
    have hm := List.mem_of_getElem? hl
    rw [List.map_set, map_no hn, List.filter_append, no_filter (hn l hm)]
    have : ([z].filter fun y => decide (y ≠ z)) = [] := by simp
    rw [this, List.append_nil]
    have e : way.set i l = way := by
      refine List.ext_getElem? fun k => ?_
      by_cases hk : k = i
      · subst hk
        rw [List.getElem?_set_self (List.getElem?_eq_some_iff.mp hl).1, hl]
      · rw [List.getElem?_set_ne (Ne.symm hk)]
    rw [e, keep]
  · unfold delC
    rw [List.map_append, map_no hn]
    have : ([[z]].map fun ws : List Str => ws.filter fun y => decide (y ≠ z)) = [[]] := by simp
    rw [this, List.filter_append, keep]
    simp
theorem nodup_withC {z : Str} {way : List (List Str)} (hn : ∀ ws ∈ way, z ∉ ws) : (withC fit z way).Nodup := by
  unfold withC
  have lens : ∀ i x, putI fit z way i = some x → x.length = way.length := fun i x e => by
    unfold putI at e
    split at e
    · rw [← Option.some.inj e, List.length_set]
    · cases e
  rw [List.nodup_append]
  refine ⟨nodup_fm _ List.nodup_range fun i hi j hj x e1 e2 => ?_, by split <;> simp, fun x hx y hy e => ?_⟩
  · have li := List.mem_range.mp hi
    have lj := List.mem_range.mp hj
    by_cases hij : i = j
    · exact hij
    · unfold putI at e1 e2
      split at e1
      case isFalse => cases e1
      split at e2
      case isFalse => cases e2
      have e := (Option.some.inj e1).trans (Option.some.inj e2).symm
      have e3 := congrArg (fun l => l[i]?) e
      rw [List.getElem?_set_self li, List.getElem?_set_ne (Ne.symm hij), List.getElem?_eq_getElem li, List.getD_eq_getElem?_getD, List.getElem?_eq_getElem li] at e3
      have e4 := congrArg List.length (Option.some.inj e3)
      simp at e4
  · subst e
    obtain ⟨i, _, e1⟩ := List.mem_filterMap.mp hx
    have h1 := lens i x e1
    split at hy
    · rw [List.mem_singleton.mp hy, List.length_append] at h1
      simp at h1
    · cases hy
theorem ways_all (mono : ∀ a z, fit (a ++ [z]) = true → fit a = true) : ∀ (n : Nat) (ns : List Str), ns.length = n → ns.Pairwise ltS → (waysF fit ns).Nodup ∧ ∀ way, way ∈ waysF fit ns ↔ Part fit ns way
  | 0, ns, hl, _ => by
    obtain rfl := List.length_eq_zero_iff.mp hl
    refine ⟨by simp [waysF], fun way => ⟨fun h => ?_, fun p => ?_⟩⟩
    · obtain rfl : way = [] := List.mem_singleton.mp h
      exact ⟨List.Perm.nil, (fun _ h => nomatch h), (fun _ h => nomatch h), (fun _ h => nomatch h), List.Pairwise.nil⟩
    · have : way = [] := by
        cases way with
        | nil => rfl
        | cons a w =>
          have e := p.perm.length_eq
          have := List.length_pos_iff.mpr (p.ne a List.mem_cons_self)
          rw [List.flatten_cons, List.length_append] at e
          have e : a.length + w.flatten.length = 0 := e
          omega
      rw [this]
      exact List.mem_cons_self
  | n + 1, ns, hl, ha => by
    obtain ⟨ms, z, rfl⟩ : ∃ ms z, ns = ms ++ [z] := by
      have hne : ns ≠ [] := fun e => by rw [e] at hl; cases hl
      exact ⟨ns.dropLast, ns.getLast hne, (List.dropLast_concat_getLast hne).symm⟩
    rw [List.length_append, List.length_singleton] at hl
    obtain ⟨hm, _, hz⟩ := List.pairwise_append.mp ha
    have hz' : ∀ y ∈ ms, ltS y z := fun y hy => hz y hy z List.mem_cons_self
    obtain ⟨nd, mem⟩ := ways_all mono n ms (by omega) hm
    have out : ∀ way, Part fit ms way → ∀ ws ∈ way, z ∉ ws := fun way p ws hw hzw => (hz' z (p.perm.mem_iff.mp (List.mem_flatten.mpr ⟨ws, hw, hzw⟩))).2 rfl
    rw [ways_snoc]
    refine ⟨nodup_bind nd (fun way hw => nodup_withC (out way ((mem way).mp hw))) fun w1 h1 w2 h2 x x1 x2 => ?_, fun way' => ⟨fun h => ?_, fun p => ?_⟩⟩
    · have p1 := (mem w1).mp h1
      have p2 := (mem w2).mp h2
      rw [← del_with (out w1 p1) p1.ne x1, del_with (out w2 p2) p2.ne x2]
    · obtain ⟨way, hw, hx⟩ := List.mem_flatMap.mp h
      exact part_more ((mem way).mp hw) hz' hx
    · obtain ⟨way, pw, hx⟩ := part_less mono hm hz' p
      exact List.mem_flatMap.mpr ⟨way, (mem way).mpr pw, hx⟩
end
end Vf

set_option maxRecDepth 100000
set_option maxHeartbeats 4000000
namespace Vf
open PySem PySem.Spec PyProof.Rows L2
def subs (ns : List Str) : List (List Str) := ns.foldl (fun some z => some ++ some.map fun one => one ++ [z]) [[]]
theorem subs_snoc (ns : List Str) (z : Str) : subs (ns ++ [z]) = subs ns ++ (subs ns).map fun one => one ++ [z] := by
  unfold subs
  rw [List.foldl_append]
  rfl
theorem subs_all : ∀ (n : Nat) (ns : List Str), ns.length = n → (ns.Nodup → (subs ns).Nodup) ∧ ∀ one, one ∈ subs ns ↔ one.Sublist ns
  | 0, ns, hl => by
    obtain rfl := List.length_eq_zero_iff.mp hl
    exact ⟨fun _ => by simp [subs], fun one => by simp [subs]⟩
  | n + 1, ns, hl => by
    obtain ⟨ms, z, rfl⟩ : ∃ ms z, ns = ms ++ [z] := by
      have hne : ns ≠ [] := fun e => by rw [e] at hl; cases hl
      exact ⟨ns.dropLast, ns.getLast hne, (List.dropLast_concat_getLast hne).symm⟩
    rw [List.length_append, List.length_singleton] at hl
    obtain ⟨nd, mem⟩ := subs_all n ms (by omega)
    rw [subs_snoc]
    refine ⟨fun h => ?_, fun one => ?_⟩
    · rw [List.nodup_append] at h
      rw [List.nodup_append]
      refine ⟨nd h.1, nodup_mapOn _ (nd h.1) (fun a _ b _ e => by simpa using e), fun a ha b hb e => ?_⟩
      obtain ⟨c, _, rfl⟩ := List.mem_map.mp hb
      have hz : z ∈ ms := ((mem a).mp ha).subset (by rw [e]; simp)
      exact h.2.2 z hz z List.mem_cons_self rfl
    · rw [List.mem_append, mem, List.sublist_append_iff]
      constructor
      · rintro (h | h)
        · exact ⟨one, [], (List.append_nil one).symm, h, List.nil_sublist _⟩
        · obtain ⟨c, hc, rfl⟩ := List.mem_map.mp h
          exact ⟨c, [z], rfl, (mem c).mp hc, List.Sublist.refl _⟩
      · rintro ⟨a, b, rfl, ha, hb⟩
        cases b with
        | nil => rw [List.append_nil]; exact .inl ha
        | cons y b =>
          have h1 : b = [] := by
            have := hb.length_le
            simp at this
            exact this
          subst h1
          have h2 : y = z := by
            have := hb.subset (List.mem_cons_self (a := y))
            exact List.mem_singleton.mp this
          subst h2
          exact .inr (List.mem_map.mpr ⟨a, (mem a).mpr ha, rfl⟩)
theorem subs_len (ns : List Str) : (subs ns).length = 2 ^ ns.length := by
  have : ∀ (n : Nat) (ns : List Str), ns.length = n → (subs ns).length = 2 ^ ns.length := fun n => by
    induction n with
    | zero =>
      intro ns hl
      obtain rfl := List.length_eq_zero_iff.mp hl
      rfl
    | succ n ih =>
      intro ns hl
      obtain ⟨ms, z, rfl⟩ : ∃ ms z, ns = ms ++ [z] := by
        have hne : ns ≠ [] := fun e => by rw [e] at hl; cases hl
        exact ⟨ns.dropLast, ns.getLast hne, (List.dropLast_concat_getLast hne).symm⟩
      rw [List.length_append, List.length_singleton] at hl
      rw [subs_snoc, List.length_append, List.length_map, ih ms (by omega), List.length_append, List.length_singleton, Nat.pow_succ]
      omega
  exact this _ ns rfl
section
variable {fit : List Str → Bool}
def rem (rest line : List Str) : List Str := rest.filter fun y => decide (y ∉ line)
/-- all ways to put what is left into lines: first the line of its first name -/
def everyF (fit : List Str → Bool) : Nat → List Str → List (List (List Str))
  | 0, _ => []
  | _ + 1, [] => [[]]
  | n + 1, a :: rest => (subs rest).flatMap fun one => if fit (a :: one) then (everyF fit n (rem (a :: rest) (a :: one))).map fun w => (a :: one) :: w else []
theorem rem_sub (rest line : List Str) : (rem rest line).Sublist rest := List.filter_sublist
theorem rem_len {a : Str} {rest one : List Str} : (rem (a :: rest) (a :: one)).length ≤ rest.length := by
  unfold rem
  rw [List.filter_cons_of_neg (by simp)]
  exact List.length_filter_le _ _
theorem rem_perm {a : Str} {rest one : List Str} (nd : (a :: rest).Nodup) (h : one.Sublist rest) : ((a :: one) ++ rem (a :: rest) (a :: one)).Perm (a :: rest) := by
  have nd1 : (a :: one).Nodup := nd.sublist (h.cons_cons a)
  refine (List.perm_ext_iff_of_nodup ?_ nd).mpr fun y => ?_
  · rw [List.nodup_append]
    refine ⟨nd1, nd.sublist (rem_sub _ _), fun x hx y hy e => ?_⟩
    have := of_decide_eq_true (List.mem_filter.mp hy).2
    exact this (e ▸ hx)
  · rw [List.mem_append]
    constructor
    · rintro (h1 | h1)
      · exact (h.cons_cons a).subset h1
      · exact (rem_sub _ _).subset h1
    · intro h1
      by_cases h2 : y ∈ a :: one
      · exact .inl h2
      · exact .inr (List.mem_filter.mpr ⟨h1, decide_eq_true h2⟩)
theorem asc_sub_of {l ns : List Str} (hl : l.Pairwise ltS) (hn : ns.Pairwise ltS) (h : ∀ y ∈ l, y ∈ ns) : l.Sublist ns := by
  induction ns generalizing l with
  | nil =>
    cases l with
    | nil => exact .slnil
    | cons a l => exact absurd (h a List.mem_cons_self) (by simp)
  | cons b ns ih =>
    cases l with
    | nil => exact List.nil_sublist _
    | cons a l =>
      obtain ⟨hb, hn'⟩ := List.pairwise_cons.mp hn
      obtain ⟨ha, hl'⟩ := List.pairwise_cons.mp hl
      by_cases e : a = b
      · subst e
        refine (ih hl' hn' fun y hy => ?_).cons_cons a
        rcases List.mem_cons.mp (h y (List.mem_cons_of_mem _ hy)) with q | q
        · exact absurd q.symm (ha y hy).2
        · exact q
      · refine (ih hl hn' fun y hy => ?_).cons b
        rcases List.mem_cons.mp (h y hy) with q | q
        · subst q
          rcases List.mem_cons.mp hy with q2 | q2
          · exact absurd q2.symm e
          · rcases List.mem_cons.mp (h a List.mem_cons_self) with q3 | q3
            · exact absurd q3 e
            · exact ((ha y q2).asym (hb a q3)).elim
        · exact q
theorem every_all : ∀ (n : Nat) (ns : List Str), ns.length < n → ns.Pairwise ltS → (everyF fit n ns).Nodup ∧ ∀ way, way ∈ everyF fit n ns ↔ Part fit ns way
  | 0, _, h, _ => absurd h (Nat.not_lt_zero _)
  | n + 1, [], _, _ => by
    refine ⟨by simp [everyF], fun way => ⟨fun h => ?_, fun p => ?_⟩⟩
    · obtain rfl : way = [] := List.mem_singleton.mp h
      exact ⟨List.Perm.nil, (fun _ h => nomatch h), (fun _ h => nomatch h), (fun _ h => nomatch h), List.Pairwise.nil⟩
    · have : way = [] := by
        cases way with
        | nil => rfl
        | cons a w =>
          have e := p.perm.length_eq
          have := List.length_pos_iff.mpr (p.ne a List.mem_cons_self)
          rw [List.flatten_cons, List.length_append] at e
          have e : a.length + w.flatten.length = 0 := e
          omega
      rw [this]
      exact List.mem_cons_self
  | n + 1, a :: rest, hl, ha => by
    have nd := asc_nodup ha
    obtain ⟨ha1, ha2⟩ := List.pairwise_cons.mp ha
    obtain ⟨sn, sm⟩ := subs_all _ rest rfl
    have ndr : rest.Nodup := (List.nodup_cons.mp nd).2
    rw [List.length_cons] at hl
    have ih := fun one : List Str => every_all n (rem (a :: rest) (a :: one)) (Nat.lt_of_le_of_lt rem_len (by omega)) (ha.sublist (rem_sub _ _))
    refine ⟨nodup_bind (sn ndr) (fun one h1 => ?_) (fun o1 h1 o2 h2 x x1 x2 => ?_), fun way => ⟨fun h => ?_, fun p => ?_⟩⟩
    · split
      · exact nodup_mapOn _ (ih one).1 fun x _ y _ e => (List.cons.inj e).2
      · exact List.nodup_nil
    · split at x1
      case isFalse => cases x1
      split at x2
      case isFalse => cases x2
      obtain ⟨w1, _, rfl⟩ := List.mem_map.mp x1
      obtain ⟨w2, _, e⟩ := List.mem_map.mp x2
      exact (List.cons.inj (List.cons.inj e).1).2.symm
    · obtain ⟨one, h1, h2⟩ := List.mem_flatMap.mp h
      split at h2
      case isFalse => cases h2
      rename_i hf
      obtain ⟨w, hw, rfl⟩ := List.mem_map.mp h2
      have p := ((ih one).2 w).mp hw
      have hs := (sm one).mp h1
      refine ⟨?_, fun ws hws => ?_, fun ws hws => ?_, fun ws hws => ?_, List.pairwise_cons.mpr ⟨fun b hb x xs y ys ea eb => ?_, p.head⟩⟩
      · rw [List.flatten_cons]
        exact (p.perm.append_left (a :: one)).trans (rem_perm nd hs)
      · rcases List.mem_cons.mp hws with rfl | hws
        · simp
        · exact p.ne ws hws
      · rcases List.mem_cons.mp hws with rfl | hws
        · exact ha.sublist (hs.cons_cons a)
        · exact p.asc ws hws
      · rcases List.mem_cons.mp hws with rfl | hws
        · exact hf
        · exact p.fits ws hws
      · injection ea with ea _
        subst ea
        have hy : y ∈ rem (a :: rest) (a :: one) := p.perm.mem_iff.mp (List.mem_flatten.mpr ⟨b, hb, eb ▸ List.mem_cons_self⟩)
        have h3 := (rem_sub _ _).subset hy
        rcases List.mem_cons.mp h3 with e | e
        · exact absurd (of_decide_eq_true (List.mem_filter.mp hy).2) (fun q => q (e ▸ List.mem_cons_self))
        · exact ha1 y e
    · -- the first line begins with a
      have inn : ∀ ws ∈ way, ∀ y ∈ ws, y ∈ a :: rest := fun ws hw y hy => p.perm.mem_iff.mp (List.mem_flatten.mpr ⟨ws, hw, hy⟩)
      obtain ⟨l, hl2, hal⟩ := List.mem_flatten.mp (p.perm.mem_iff.mpr List.mem_cons_self : a ∈ way.flatten)
      cases way with
      | nil => cases hl2
      | cons l0 w =>
        have hd0 : ∃ one, l0 = a :: one := by
          cases e0 : l0 with
          | nil => exact absurd e0 (p.ne l0 List.mem_cons_self)
          | cons y ys =>
            rcases List.mem_cons.mp (inn l0 List.mem_cons_self y (e0 ▸ List.mem_cons_self)) with q | q
            · exact ⟨ys, by rw [q]⟩
            · have hay : ltS a y := ha1 y q
              -- a is in l, which is l0 or behind it
              rcases List.mem_cons.mp hl2 with e | e
              · rw [e, e0] at hal
                have as := p.asc l0 List.mem_cons_self
                rw [e0] at as
                rcases List.mem_cons.mp hal with q2 | q2
                · exact absurd q2 hay.2
                · exact ((List.pairwise_cons.mp as).1 a q2 |>.asym hay).elim
              · cases e1 : l with
                | nil => rw [e1] at hal; cases hal
                | cons x xs =>
                  have hyx := (List.pairwise_cons.mp p.head).1 l e y ys x xs e0 e1
                  have as := p.asc l (List.mem_cons_of_mem _ e)
                  rw [e1] at as hal
                  rcases List.mem_cons.mp hal with q2 | q2
                  · subst q2
                    exact (hyx.asym hay).elim
                  · exact ((hyx.trans ((List.pairwise_cons.mp as).1 a q2)).asym hay).elim
        obtain ⟨one, rfl⟩ := hd0
        have as := p.asc (a :: one) List.mem_cons_self
        have hs : one.Sublist rest := by
          refine asc_sub_of (List.pairwise_cons.mp as).2 ha2 fun y hy => ?_
          rcases List.mem_cons.mp (inn (a :: one) List.mem_cons_self y (List.mem_cons_of_mem _ hy)) with q | q
          · exact absurd q.symm ((List.pairwise_cons.mp as).1 y hy).2
          · exact q
        refine List.mem_flatMap.mpr ⟨one, (sm one).mpr hs, ?_⟩
        rw [if_pos (p.fits (a :: one) List.mem_cons_self)]
        refine List.mem_map.mpr ⟨w, ((ih one).2 w).mpr ⟨?_, fun ws hw => p.ne ws (List.mem_cons_of_mem _ hw), fun ws hw => p.asc ws (List.mem_cons_of_mem _ hw), fun ws hw => p.fits ws (List.mem_cons_of_mem _ hw), (List.pairwise_cons.mp p.head).2⟩, rfl⟩
        have h1 := p.perm
        rw [List.flatten_cons] at h1
        exact (List.perm_append_left_iff (a :: one)).mp (h1.trans (rem_perm nd hs).symm)
theorem ways_every (mono : ∀ a z, fit (a ++ [z]) = true → fit a = true) {ns : List Str} (h : ns.Pairwise ltS) {n : Nat} (hn : ns.length < n) : (waysF fit ns).Perm (everyF fit n ns) := by
  obtain ⟨n1, m1⟩ := ways_all mono _ ns rfl h
  obtain ⟨n2, m2⟩ := every_all (fit := fit) n ns hn h
  exact (List.perm_ext_iff_of_nodup n1 n2).mpr fun w => (m1 w).trans (m2 w).symm
theorem leL_heads {x y : Str} {xs ys : List Str} (h : ltS x y) : leL (x :: xs) (y :: ys) = true := by
  have e : ∀ (z : Str) (zs : List Str), PySem.W.keyToks (lnD (z :: zs)) = .inl 1 :: .inr z.cps.toList :: PySem.W.keyToksAll (zs.map PyData.str) := fun z zs => by
    unfold lnD
    simp [PySem.W.keyToks, PySem.W.keyToksAll]
  show (!(listOrd itemOrd).blt (PySem.W.keyToks (lnD (y :: ys))) (PySem.W.keyToks (lnD (x :: xs)))) = true
  rw [e, e, Bool.not_eq_true']
  have n1 : ¬ y.cps.toList < x.cps.toList := leS_iff.mp h.1
  have n2 : x.cps.toList < y.cps.toList := by
    rcases Decidable.em (x.cps.toList < y.cps.toList) with q | q
    · exact q
    · exact absurd (str_eq (List.le_antisymm n1 q)) h.2
  have t2 : PyProof.Rows.lexLt itemOrd (.inr y.cps.toList :: PySem.W.keyToksAll (ys.map PyData.str)) (.inr x.cps.toList :: PySem.W.keyToksAll (xs.map PyData.str)) = false :=
    lex_false.mpr ⟨(decide_eq_false n1 : decide (y.cps.toList < x.cps.toList) = false), .inl (decide_eq_true n2 : decide (x.cps.toList < y.cps.toList) = true)⟩
  show PyProof.Rows.lexLt itemOrd (.inl 1 :: .inr y.cps.toList :: PySem.W.keyToksAll (ys.map PyData.str)) (.inl 1 :: .inr x.cps.toList :: PySem.W.keyToksAll (xs.map PyData.str)) = false
  rw [lex_self (O := itemOrd)]
  exact t2
theorem part_ord {ns : List Str} {way : List (List Str)} (p : Part fit ns way) : way.map srt = way ∧ sortL way = way := by
  refine ⟨?_, ?_⟩
  · conv => rhs; rw [← List.map_id way]
    exact List.map_congr_left fun ws hw => asc_srt (p.asc ws hw)
  · have h2 : way.Pairwise fun a b => leL a b = true := by
      have : ∀ w : List (List Str), (∀ ws ∈ w, ws ≠ []) → w.Pairwise hdLt → w.Pairwise fun a b => leL a b = true := fun w => by
        induction w with
        | nil => intro _ _; exact .nil
        | cons a w ih =>
          intro ne hp
          obtain ⟨h1, h2⟩ := List.pairwise_cons.mp hp
          refine List.pairwise_cons.mpr ⟨fun b hb => ?_, ih (fun ws hw => ne ws (List.mem_cons_of_mem _ hw)) h2⟩
          cases ea : a with
          | nil => exact absurd ea (ne a List.mem_cons_self)
          | cons x xs =>
            cases eb : b with
            | nil => exact absurd eb (ne b (List.mem_cons_of_mem _ hb))
            | cons y ys => exact leL_heads (h1 b hb x xs y ys ea eb)
      exact this way p.ne p.head
    exact List.Perm.eq_of_pairwise (le := fun a b => leL a b = true) (fun _ _ _ _ h1 h2 => ln_anti h1 h2) (List.pairwise_mergeSort (dle_trans lnD) (dle_total lnD) way) h2 (sortL_perm way)
end
end Vf

set_option maxRecDepth 100000
set_option maxHeartbeats 16000000
namespace Vf
open PySem PySem.Spec PyProof.Rows L2
theorem SqT.same {K : PySem.W.Frag} {H H' : Hp} {a : Addr} {xs : List V} (h : SqT K H a xs) (s : Same H H') : SqT K H' a xs := by
  rcases h with (h | ⟨o, h⟩) | h
  · exact .inl (.inl (s _ _ h))
  · exact .inl (.inr ⟨o, s _ _ h⟩)
  · exact .inr h
theorem catA_any {K : PySem.W.Frag} {H : Hp} {a b : Addr} {xs ys : List V} {Q : VK} (ha : SqT K H a xs) (hb : SqT K H b ys) (fit : xs.length + ys.length ≤ 1000) (h : ∀ p H', Same H H' → SqT K H' p (xs ++ ys) → Q (.ref p) H') : rCatA K (.ref a) (.ref b) H Q := by
  refine ⟨a, b, xs, ys, rfl, rfl, ha, hb, by rw [sizeLine_eq]; omega, fun e => ?_, fun _ e => ?_, fun _ _ p hp => ?_⟩
  · subst e
    exact h b H (Same.refl _) hb
  · subst e
    exact h a H (Same.refl _) (by rw [List.append_nil]; exact ha)
  · exact h p _ (same_new hp) (SqT.of upd_same)
theorem slA_left {K : PySem.W.Frag} {H : Hp} {a : Addr} {xs : List V} {i : Nat} {Q : VK} (ha : SqT K H a xs) (hi : i < xs.length) (h : ∀ p H', Same H H' → SqT K H' p (xs.take i) → Q (.ref p) H') : rSlA K (.ref a) none (some (i : Int)) H Q := by
  refine ⟨a, xs, rfl, ha, fun e => ?_, fun _ p hp => ?_⟩
  · rw [HT.sIx_nat] at e
    omega
  · have e : cutV xs none (some (i : Int)) = xs.take i := by
      unfold cutV
      rw [HT.sIx_none, HT.sIx_nat, List.drop_zero, Nat.sub_zero, Nat.min_eq_left (by omega)]
    rw [e]
    exact h p _ (same_new hp) (SqT.of upd_same)
theorem slA_right {K : PySem.W.Frag} {H : Hp} {a : Addr} {xs : List V} {i : Nat} {Q : VK} (ha : SqT K H a xs) (hi : i < xs.length) (h : ∀ p H', Same H H' → SqT K H' p (xs.drop (i + 1)) → Q (.ref p) H') : rSlA K (.ref a) (some ((i : Int) + 1)) none H Q := by
  have e1 : ((i : Int) + 1) = ((i + 1 : Nat) : Int) := by omega
  rw [e1]
  refine ⟨a, xs, rfl, ha, fun e => ?_, fun _ p hp => ?_⟩
  · rw [HT.sIx_nat] at e
    omega
  · have e : cutV xs (some ((i + 1 : Nat) : Int)) none = xs.drop (i + 1) := by
      unfold cutV
      rw [HT.sIx_none, HT.sIx_nat, Nat.min_eq_left (by omega)]
      exact List.take_of_length_le (by rw [List.length_drop]; omega)
    rw [e]
    exact h p _ (same_new hp) (SqT.of upd_same)
theorem same_at {H H' : Hp} {l : Addr} {o : HO} (s : Same H H') (hl : H l = none) : Same H (upd H' l o) := fun b u e => by
  rw [upd_ne (ne_of_none e hl)]
  exact s b u e
theorem SqT.put {K : PySem.W.Frag} {H : Hp} {a l : Addr} {xs ys : List V} {o : HO} (h : SqT K H a xs) (hl : H l = some (.lst ys)) : SqT K (upd H l o) a xs := by
  rcases h with (h | ⟨o', h⟩) | h
  · exact .inl (.inl (by rw [upd_ne (ne_of h hl (by intro z; cases z))]; exact h))
  · exact .inl (.inr ⟨o', by rw [upd_ne (ne_of h hl (by intro z; cases z))]; exact h⟩)
  · exact .inr h
/-- a tuple of tuples of texts -/
structure WayAt (K : PySem.W.Frag) (H : Hp) (a : Addr) (way : List (List Str)) : Prop where
  ex : ∃ qs : List (Addr × List Str), SqT K H a (qs.map fun q => V.ref q.1) ∧ (∀ q ∈ qs, SqT K H q.1 (q.2.map V.str)) ∧ qs.map Prod.snd = way
theorem WayAt.same {K : PySem.W.Frag} {H H' : Hp} {a : Addr} {way : List (List Str)} (h : WayAt K H a way) (s : Same H H') : WayAt K H' a way := by
  obtain ⟨qs, h1, h2, h3⟩ := h
  exact ⟨qs, Vf.SqT.same h1 s, fun q hq => Vf.SqT.same (h2 q hq) s, h3⟩
theorem WayAt.put {K : PySem.W.Frag} {H : Hp} {a l : Addr} {ys : List V} {o : HO} {way : List (List Str)} (h : WayAt K H a way) (hl : H l = some (.lst ys)) : WayAt K (upd H l o) a way := by
  obtain ⟨qs, h1, h2, h3⟩ := h
  exact ⟨qs, Vf.SqT.put h1 hl, fun q hq => Vf.SqT.put (h2 q hq) hl, h3⟩
section
variable {P : Program} {w : World} {K : PySem.W.Frag} {mg : Str → Option Value} {base : Heap}
def sp_filledT (K : PySem.W.Frag) : Sp := fun vs H Q _ => ∃ (d l : Addr) (cs : List (Str × Nat)) (ws : List Str), vs = [.ref d, .ref l] ∧ H d = some (.dK (cellKv cs)) ∧ SqT K H l (ws.map V.str) ∧ ws.length ≤ 1000 ∧ (∀ z ∈ ws, z ∈ cs.map Prod.fst) ∧ ∀ H', Same H H' → Q (.int (total cs ws : Nat)) H'
theorem ok_filledT {f : Addr} {fd : FuncData} (F : Fun K "_filled" "_filled" s_filled f fd) (T : Txt0 K mg) : FnOk P w K mg base CX0 1 f fd p_filled (sp_filledT K) := by
  refine F.ok sc_filled (fun vs H Q E h => ?_) (fun cdv A outer s H vs Q E hr h => ?_)
  · obtain ⟨d, l, cs, ws, rfl, _⟩ := h
    rfl
  · obtain ⟨d, l, cs, ws, rfl, hd, hl, few, hin, k⟩ := h
    refine ⟨_, pss_one (ps_ret (pe_callB (cr_sum rfl) (by rfl) T.sum (by decide +kernel) (pa_cons (pe_lc (own := [("name", 2)]) (g := gName 2) (tt := tYes) rfl sc_filled.nd (pi_tup (pv 1)) (blkOk_by (N := n_filled) (sc := defScope s_filled) (by decide +kernel))
        (fun _ _ _ _ _ => pg_name (i := 2) sc_filled.nd rfl (Or.inl rfl)) (fun _ _ _ _ _ => pts_nil) (fun _ _ _ _ _ => pe_dget (hu_of hr) (pv 0) (pv 2) (fun _ _ => rfl))) pa_nil))), ?_⟩
    refine ⟨_, rfl, l, rfl, ⟨_, hl⟩, fun D hD => lc_mp ws (walk_tup (K := K) (a := l) (xs := ws.map V.str) |> fun z => by rw [List.length_map] at z; exact z) hD (fun z => .int (sizeOfD cs z : Nat)) (by omega) (fun H5 s5 => Vf.SqT.same hl s5) ?_ ?_⟩
    · rintro j z x H2 H3 hj s2 ⟨rfl, hx⟩ R hR
      rw [List.getElem?_map, hj] at hx
      obtain rfl : V.str z = x := Option.some.inj hx
      have hz := size_some (hin z (List.mem_of_getElem? hj))
      have gg := DGet.k (k := Sum.inr z) (s2 _ _ hd)
      rw [valV_cells, hz] at gg
      exact ⟨rfl, _, rfl, _, rfl, d, _, rfl, gg, hR _ (Same.refl _)⟩
    · intro H2 s2 hL
      refine ⟨D, ws.map fun z => ((sizeOfD cs z : Nat) : Int), rfl, SqL.of (by rw [hL, List.map_map]; rfl), ?_⟩
      have e : (ws.map fun z => ((sizeOfD cs z : Nat) : Int)).sum = ((total cs ws : Nat) : Int) := by
        unfold total
        clear hin hl few k hL
        induction ws with
        | nil => rfl
        | cons z r ih =>
          rw [List.map_cons, List.map_cons, List.sum_cons, List.sum_cons, ih]
          omega
      rw [e]
      exact k _ s2
/-- do these cells fit in a line? -/
def fitB (cs : List (Str × Nat)) (r : Nat) (ws : List Str) : Bool := decide (total cs ws ≤ r)
/-- a list of ways -/
structure WaysAt (K : PySem.W.Frag) (H : Hp) (l : Addr) (bs : List (Addr × List (List Str))) : Prop where
  at_ : H l = some (.lst (bs.map fun b => V.ref b.1))
  each : ∀ b ∈ bs, WayAt K H b.1 b.2
theorem WaysAt.same {K : PySem.W.Frag} {H H' : Hp} {l : Addr} {bs : List (Addr × List (List Str))} (h : WaysAt K H l bs) (s : Same H H') : WaysAt K H' l bs := ⟨s _ _ h.at_, fun b hb => (h.each b hb).same s⟩
theorem WaysAt.more {K : PySem.W.Frag} {H : Hp} {l p : Addr} {bs : List (Addr × List (List Str))} {way : List (List Str)} (h : WaysAt K H l bs) (hp : WayAt K H p way) : WaysAt K (upd H l (.lst ((bs.map fun b => V.ref b.1) ++ [.ref p]))) l (bs ++ [(p, way)]) :=
  ⟨by rw [upd_same, List.map_append]; rfl, fun b hb => by
    rcases List.mem_append.mp hb with z | z
    · exact (h.each b z).put h.at_
    · rw [List.mem_singleton.mp z]
      exact hp.put h.at_⟩
theorem fm_range {α : Type} (f : Nat → Option α) (i : Nat) : (List.range (i + 1)).filterMap f = (List.range i).filterMap f ++ (f i).toList := by
  rw [List.range_succ, List.filterMap_append]
  cases h : f i with
  | none => simp [h]
  | some x => simp [h]
theorem fm_range_len {α : Type} (f : Nat → Option α) (i : Nat) : ((List.range i).filterMap f).length ≤ i := by
  have := List.length_filterMap_le f (List.range i)
  rwa [List.length_range] at this
def sp_with_cell (K : PySem.W.Frag) : Sp := fun vs H Q _ => ∃ (d a : Addr) (cs : List (Str × Nat)) (r : Nat) (way : List (List Str)) (z : Str), vs = [.ref d, .int (r : Int), .ref a, .str z] ∧ H d = some (.dK (cellKv cs)) ∧ WayAt K H a way ∧ z ∈ cs.map Prod.fst ∧ (∀ ws ∈ way, ∀ y ∈ ws, y ∈ cs.map Prod.fst) ∧
  way.length ≤ 100 ∧ (∀ ws ∈ way, ws.length ≤ 100) ∧ ∀ D bs H', Same H H' → H D = none → WaysAt K H' D bs → bs.map Prod.snd = withC (fitB cs r) z way → Q (.ref D) H'
theorem ok_with_cell {f : Addr} {fd : FuncData} (F : Fun K "_with_cell" "_with_cell" s_with_cell f fd) (T : Txt0 K mg) (GF : OkF P w K mg base CX0 "_filled" p_filled 1 (sp_filledT K)) : FnOk P w K mg base CX0 2 f fd p_with_cell (sp_with_cell K) := by
  refine F.ok sc_with_cell (fun vs H Q E h => ?_) (fun cdv A outer s H vs Q E hr h => ?_)
  · obtain ⟨d, a, cs, r, way, z, rfl, _⟩ := h
    rfl
  · obtain ⟨d, a, cs, r, way, z, rfl, hd, ⟨qs, hqs, hq, rfl⟩, hz, hin, lw, ll, k⟩ := h
    refine ⟨_, pss_cons (ps_set (i := 4) sc_with_cell.nd rfl (Or.inl rfl) (pe_lst pa_nil))
      (pss_cons (ps_for PassesOwn.never rfl (pi_enumT (by rfl) T.enumerate (pa_cons (pv 2) pa_nil)) (pg_tup (by rfl) (pgs_cons (pg_name (i := 5) sc_with_cell.nd rfl (Or.inl rfl)) (pgs_cons (pg_name (i := 6) sc_with_cell.nd rfl (Or.inl rfl)) pgs_nil)))
        (pss_cons (ps_set (i := 7) sc_with_cell.nd rfl (Or.inl rfl) (pe_op op_catA (pv 6) (pe_tup (pa_cons (pv 3) pa_nil))))
        (pss_one (ps_if (pt_cmpR op_le (pe_fn GF hr rfl pass0 (pa_cons (pv 0) (pa_cons (pv 7) pa_nil))) (pv 1) (nomark _))
          (pss_one (ps_expr (pe_bm PySem.F.plainAttrs_list PySem.F.slot_list_append PySem.F.type_list_append mt_append (pv 4) (pa_cons
            (pe_op op_catA (pe_op op_catA (pe_slice sl_tupA (pv 2) po_none (po_some (pv 5))) (pe_tup (pa_cons (pv 7) pa_nil))) (pe_slice sl_tupA (pv 2) (po_some (pe_op op_add (pv 5) pe_int)) po_none)) pa_nil)))) pss_nil))))
      (pss_cons (ps_if (pt_cmpR op_le (pe_dget (hu_of hr) (pv 0) (pv 3) (fun _ _ => rfl)) (pv 1) (nomark _))
        (pss_one (ps_expr (pe_bm PySem.F.plainAttrs_list PySem.F.slot_list_append PySem.F.type_list_append mt_append (pv 4) (pa_cons (pe_op op_catA (pv 2) (pe_tup (pa_cons (pe_tup (pa_cons (pv 3) pa_nil)) pa_nil))) pa_nil)))) pss_nil)
      (pss_one (ps_ret (pv 4))))), ?_⟩
    refine ⟨Nat.zero_le _, fun fl hfl => ?_⟩
    have s1 := same_new (o := .lst []) hfl
    have w1 : WaysAt K (upd H fl (.lst [])) fl [] := ⟨upd_same, fun b hb => nomatch hb⟩
    have lq : qs.length ≤ 100 := by rwa [List.length_map] at lw
    have wt : Walk (IteT K a) qs.length (fun H => SqT K H a (qs.map fun q => V.ref q.1)) (YPair (fun i => some (.int (i : Nat))) (fun i => (qs.map fun q => V.ref q.1)[i]?)) := (walk_enumT (K := K) (a := a) (xs := qs.map fun q => V.ref q.1) |> fun z => by rw [List.length_map] at z; exact z)
    refine ⟨_, rfl, a, _, rfl, Vf.SqT.same hqs s1, for_it wt (fun i σ H' => ∃ v5 v6 v7 bs, σ = [some (.ref d), some (.int (r : Int)), some (.ref a), some (.str z), some (.ref fl), v5, v6, v7] ∧ Same H H' ∧ WaysAt K H' fl bs ∧ bs.map Prod.snd = (List.range i).filterMap (putI (fitB cs r) z (qs.map Prod.snd)))
      ⟨_, _, _, [], rfl, s1, w1, rfl⟩ (fun i σ H' _ ⟨_, _, _, _, _, s, _⟩ => Vf.SqT.same hqs s) ?_ ?_⟩
    · rintro i x σ H5 H6 hi ⟨v5, v6, v7, bs, rfl, s5, w5, e5⟩ ⟨T1, x1, x2, rfl, hT1, rfl, hx1, hx2⟩
      have ha : qs[i]? = some qs[i] := List.getElem?_eq_getElem hi
      generalize qs[i] = q at ha
      have hm := List.mem_of_getElem? ha
      obtain rfl : V.int (i : Nat) = x1 := Option.some.inj hx1
      replace hx2 : (qs.map fun q => V.ref q.1)[i]? = some x2 := hx2
      rw [List.getElem?_map, ha] at hx2
      obtain rfl : V.ref q.1 = x2 := Option.some.inj hx2
      have lb : bs.length ≤ i := by
        have := fm_range_len (putI (fitB cs r) z (qs.map Prod.snd)) i
        rw [← e5, List.length_map] at this
        exact this
      have hq2 : q.2 ∈ qs.map Prod.snd := List.mem_map_of_mem hm
      have lq2 := ll _ hq2
      have sT := same_new (o := .tup [.int (i : Nat), .ref q.1]) hT1
      have s6 := s5.trans sT
      have w6 := w5.same sT
      have gd : (qs.map Prod.snd).getD i [] = q.2 := by
        rw [List.getD_eq_getElem?_getD, List.getElem?_map, ha]
        rfl
      refine ⟨T1, _, rfl, SqT.of upd_same, rfl, _, _, rfl, _, _, rfl, rfl, ?_⟩
      generalize upd H5 T1 (.tup [.int (i : Nat), .ref q.1]) = H6 at s6 w6 ⊢
      refine ⟨_, rfl, _, rfl, (by show 1 ≤ sizeLine; decide), fun n1 hn1 => catA_any (Vf.SqT.same (hq q hm) (s6.trans (same_new hn1))) (SqT.of upd_same) (by rw [List.length_map]; show q.2.length + 1 ≤ 1000; omega) fun p2 H7 s7 h7 => ?_⟩
      have s67 := (same_new hn1).trans s7
      have s07 := s6.trans s67
      have w7 := w6.same s67
      have h7' : SqT K H7 p2 ((q.2 ++ [z]).map V.str) := by rw [List.map_append]; exact h7
      have inz : ∀ y ∈ q.2 ++ [z], y ∈ cs.map Prod.fst := fun y hy => by
        rcases List.mem_append.mp hy with h | h
        · exact hin _ hq2 y h
        · rw [List.mem_singleton.mp h]
          exact hz
      refine ⟨_, rfl, _, rfl, d, p2, cs, q.2 ++ [z], rfl, s07 _ _ hd, h7', by rw [List.length_append, List.length_singleton]; omega, inz, fun H8 s8 => ⟨_, rfl, _, _, rfl, rfl, _, rfl, ?_⟩⟩
      have s08 := s07.trans s8
      have w8 := w7.same s8
      have h8 := Vf.SqT.same h7' s8
      by_cases ht : total cs (q.2 ++ [z]) ≤ r
      · rw [decide_eq_true (p := ((total cs (q.2 ++ [z]) : Nat) : Int) ≤ (r : Int)) (by omega)]
        have il : i < (qs.map fun q => V.ref q.1).length := by rw [List.length_map]; exact hi
        refine iteT ⟨_, rfl, .inl ⟨rfl, _, SqL.of w8.at_⟩, _, rfl, _, rfl, _, rfl, slA_left (Vf.SqT.same hqs s08) il fun p3 H9 s9 h9 => ⟨_, rfl, (by show 1 ≤ sizeLine; decide), fun n2 hn2 => catA_any (Vf.SqT.same h9 (same_new hn2)) (SqT.of upd_same) (by rw [List.length_take, List.length_map]; show min i qs.length + 1 ≤ 1000; omega) fun p4 H10 s10 h10 => ?_⟩⟩
        have s810 := s9.trans ((same_new hn2).trans s10)
        refine ⟨_, rfl, _, rfl, _, _, rfl, rfl, _, rfl, ?_⟩
        dsimp only [tNoPart]
        refine slA_right (Vf.SqT.same hqs (s08.trans s810)) il fun p5 H11 s11 h11 => catA_any (Vf.SqT.same h10 s11) h11 (by simp only [List.length_append, List.length_take, List.length_drop, List.length_map, List.length_singleton]; omega) fun p6 H12 s12 h12 => ?_
        have s812 := s810.trans (s11.trans s12)
        have w12 := w8.same s812
        have hnew : WayAt K H12 p6 ((qs.map Prod.snd).set i (q.2 ++ [z])) := by
          refine ⟨(qs.take i ++ [(p2, q.2 ++ [z])]) ++ qs.drop (i + 1), ?_, fun q' hq' => ?_, ?_⟩
          · rw [List.map_append, List.map_append, List.map_take, List.map_drop]
            exact h12
          · rcases List.mem_append.mp hq' with h | h
            · rcases List.mem_append.mp h with h | h
              · exact Vf.SqT.same (hq q' (List.mem_of_mem_take h)) (s08.trans s812)
              · rw [List.mem_singleton.mp h]
                exact Vf.SqT.same h8 s812
            · exact Vf.SqT.same (hq q' (List.mem_of_mem_drop h)) (s08.trans s812)
          · rw [List.map_append, List.map_append, List.map_take, List.map_drop, List.set_eq_take_append_cons_drop, if_pos (by rw [List.length_map]; exact hi), List.append_assoc]
            rfl
        refine ⟨fl, _, _, rfl, rfl, w12.at_, by rw [List.length_map, sizeLine_eq]; omega, ?_⟩
        refine ⟨_, _, _, bs ++ [(p6, (qs.map Prod.snd).set i (q.2 ++ [z]))], rfl, same_at (s08.trans s812) hfl, w12.more hnew, ?_⟩
        rw [fm_range, List.map_append, e5]
        congr 1
        unfold putI fitB
        rw [gd, if_pos (decide_eq_true ht)]
        rfl
      · rw [decide_eq_false (p := ((total cs (q.2 ++ [z]) : Nat) : Int) ≤ (r : Int)) (by omega)]
        refine iteF ⟨_, _, _, bs, rfl, s08, w8, ?_⟩
        rw [fm_range, e5]
        unfold putI fitB
        rw [gd, if_neg (by rw [decide_eq_false ht]; simp)]
        simp
    · rintro σ H5 ⟨v5, v6, v7, bs, rfl, s5, w5, e5⟩
      have gg := DGet.k (k := Sum.inr z) (s5 _ _ hd)
      rw [valV_cells, size_some hz] at gg
      refine ⟨_, rfl, _, rfl, d, _, rfl, gg, _, rfl, _, _, rfl, rfl, _, rfl, ?_⟩
      have lb : bs.length ≤ qs.length := by
        have := fm_range_len (putI (fitB cs r) z (qs.map Prod.snd)) qs.length
        rw [← e5, List.length_map] at this
        exact this
      have tz : total cs [z] = sizeOfD cs z := by simp [total]
      by_cases ht : total cs [z] ≤ r
      · rw [decide_eq_true (p := ((sizeOfD cs z : Nat) : Int) ≤ (r : Int)) (by omega)]
        refine iteT ⟨_, rfl, .inl ⟨rfl, _, SqL.of w5.at_⟩, _, rfl, _, rfl, (by show 1 ≤ sizeLine; decide), fun n1 hn1 => ⟨(by show 1 ≤ sizeLine; decide), fun n2 hn2 => ?_⟩⟩
        have s6 := (same_new (o := .tup [.str z]) hn1).trans (same_new (o := .tup [.ref n1]) hn2)
        refine catA_any (Vf.SqT.same hqs (s5.trans s6)) (SqT.of upd_same) (by rw [List.length_map]; show qs.length + 1 ≤ 1000; omega) fun p6 H12 s12 h12 => ?_
        have s512 := s6.trans s12
        have w12 := w5.same s512
        have hnew : WayAt K H12 p6 (qs.map Prod.snd ++ [[z]]) := by
          refine ⟨qs ++ [(n1, [z])], by rw [List.map_append]; exact h12, fun q' hq' => ?_, by rw [List.map_append]; rfl⟩
          rcases List.mem_append.mp hq' with h | h
          · exact Vf.SqT.same (hq q' h) (s5.trans s512)
          · rw [List.mem_singleton.mp h]
            exact SqT.of (s12 _ _ (same_new hn2 _ _ upd_same))
        refine ⟨fl, _, _, rfl, rfl, w12.at_, by rw [List.length_map, sizeLine_eq]; omega, ?_⟩
        refine ⟨_, rfl, k fl (bs ++ [(p6, qs.map Prod.snd ++ [[z]])]) _ (same_at (s5.trans s512) hfl) hfl (w12.more hnew) ?_⟩
        unfold withC
        rw [List.map_append, e5, List.length_map]
        congr 1
        unfold fitB
        rw [if_pos (decide_eq_true ht)]
        rfl
      · rw [decide_eq_false (p := ((sizeOfD cs z : Nat) : Int) ≤ (r : Int)) (by omega)]
        refine iteF ⟨_, rfl, k fl bs _ s5 hfl w5 ?_⟩
        unfold withC
        rw [e5, List.length_map]
        unfold fitB
        rw [if_neg (by rw [decide_eq_false ht]; simp), List.append_nil]
end
end Vf

set_option maxRecDepth 100000
set_option maxHeartbeats 4000000
namespace Vf
open PySem PySem.Spec PyProof.Rows L2
abbrev wayScope : Scope := { kind := .function, names := [(Str.ofString "way", .local), (Str.ofString "len", .globalImplicit)], isGenerator := false, isCoroutine := false, more := [] }
abbrev wayParams (p : Pos) : Arguments := { posonlyargs := [], args := [{ arg := "way", annotation := none, pos := p }], vararg := none, kwonlyargs := [], kw_defaults := [], kwarg := none, defaults := [] }
abbrev wayBody (p1 p2 p3 p4 p5 : Pos) : Expr := .Tuple [.Call (.Name "len" p1) [.Name "way" p2] [] p3, .Name "way" p4] 0 p5
section
variable {prog : Program} {w : World} {A : Around} {E : Value → Shared → Prop} {s : Shared}
theorem way_call {f c' a : Addr} {qual : Str} {pm ctv : Value} {mg mb : Str → Option Value} {p0 p1 p2 p3 p4 p5 : Pos} {its : Array Value} {Q : Value → Shared → Prop} (hd : A.depth < recursionLimit)
    (hf : s.heap.get? f = some (PySem.W.kla_obj "<lambda>" qual (wayParams p0) (wayBody p1 p2 p3 p4 p5) wayScope [] pm c' ctv)) (hc : s.heap.CodeRec (.ref c') qual) (hg : s.heap.Ns mainGlobals mg) (hm : mg "len" = none) (hb : s.heap.Ns builtinsNs mb)
    (hl : mb "len" = some (.builtin "len")) (lim : s.heap.NoLimit) (ha : IsTup s.heap a its) (fit : (its.size : Int) < 2 ^ 63)
    (h : ∀ h' tk T t1, (∀ b o, s.heap.get? b = some o → h'.get? b = some o) → h'.get? T = some { cls := .type "tuple", data := .seq #[.int its.size t1, .ref a] } → s.heap.objs.size ≤ T → Q (.ref T) { s with heap := h', toks := tk }) :
    wpAny (model prog w) A (call (.ref f) [.ref a]) Q E s := by
  refine wpAny_call (PySem.W.kla_callFunE hd hf rfl rfl rfl rfl hc ?_)
  rw [show bindArgs (PySem.W.kla_fn "<lambda>" qual (wayParams p0) (wayBody p1 p2 p3 p4 p5) wayScope [] pm (.ref c') ctv) ⟨[.ref a], []⟩ = pure [(Str.ofString "way", .ref a)] from rfl]
  refine wpAny_pure (wpAny_newFunctionEnv (show ∀ x ∈ wayScope.names, x.2 ≠ .cell by decide) (fun x hx => by cases List.mem_singleton.mp hx; rfl) (fun h₁ hns hsb => ⟨lim.fresh _ hsb, ?_⟩) rfl)
  have kp : ∀ b o, s.heap.get? b = some o → h₁.get? b = some o := fun b o e => (hsb.2 b (Nat.ne_of_lt (Heap.lt_size e))).trans (Heap.get?_push_of_some _ e)
  refine PySem.W.kla_codeExpr ?_
  refine wpAny_Tuple_spliced ?_
  refine Calls.spliced_cons ?_
  refine wpAny_Call_Name_kw (Calls.Name_function_global rfl rfl (Calls.loadGlobal_builtin (hg.keeps kp) hm (hb.keeps kp) hl ?_))
  refine PyProof.Rows.callWith_builtin1 ?_ rfl rfl
  refine Calls.spliced_cons (wpAny_Name (wpAny_loadName_local rfl rfl hns rfl ?_))
  refine Calls.spliced_nil ?_
  refine PyProof.Rows.len_tuple (ha.keeps kp) fit ?_
  refine Calls.spliced_cons (wpAny_Name (wpAny_loadName_local rfl rfl hns rfl ?_))
  refine Calls.spliced_nil ⟨by show 2 ≤ sizeLine; rw [sizeLine_eq]; omega, ?_⟩
  refine h _ _ _ _ (fun b o e => Heap.get?_push_of_some _ (kp b o e)) (Heap.get?_push_size _ rfl) ?_
  have e := hsb.1
  rw [Heap.size_push] at e
  show s.heap.objs.size ≤ h₁.objs.size
  omega
end
/-- a heap with nothing in it -/
def emp : Heap := { objs := #[] }
theorem emp_get (b : Addr) : emp.get? b = none := Heap.get?_none_of_le (Nat.zero_le _)
/-- all that stands, but L -/
def standing (h : Heap) (L : Addr) : List (Addr × Obj) := (List.range h.objs.size).filterMap fun b => if b = L then none else (h.get? b).map fun o => (b, o)
theorem mem_standing {h : Heap} {L b : Addr} {o : Obj} : (b, o) ∈ standing h L ↔ h.get? b = some o ∧ b ≠ L := by
  unfold standing
  rw [List.mem_filterMap]
  constructor
  · rintro ⟨c, _, e⟩
    by_cases hc : c = L
    · rw [if_pos hc] at e
      cases e
    · rw [if_neg hc] at e
      cases q : h.get? c with
      | none =>
        rw [q] at e
        cases e
      | some x =>
        rw [q] at e
        cases e
        exact ⟨q, hc⟩
  · rintro ⟨e, hne⟩
    refine ⟨b, List.mem_range.mpr (Heap.lt_size e), ?_⟩
    rw [if_neg hne, e]
    rfl
theorem ns_one {h : Heap} {a : Addr} {m m' : Str → Option Value} (x : h.Ns a m) (y : h.Ns a m') : m' = m := by
  obtain ⟨o, es, ep, e1, e2, _, e3⟩ := x
  obtain ⟨o', es', ep', f1, f2, _, f3⟩ := y
  rw [e1] at f1
  cases f1
  rw [e2] at f2
  cases f2
  funext n
  rw [← e3, ← f3]
section
variable {X : Cx} {pins : List (Addr × Obj)} {σ : L2.St} {H : Hp} {s : Shared} {m : Str → Option Value}
/-- what stood stands -/
theorem inv_news {h : Heap} {tk : Nat} (I : Inv X pins σ H s) (nm : s.heap.Ns X.env.locals m) (nm' : h.Ns X.env.locals m) (N : ∀ b o, s.heap.get? b = some o → b ≠ X.env.locals → h.get? b = some o) : Inv X pins σ H { s with heap := h, toks := tk } := by
  have nL : ∀ b u, H b = some u → b ≠ X.env.locals := fun b u e z => by
    rw [z, I.free] at e
    cases e
  refine I.step (g' := s.gens) (d' := s.drawn) (ch := []) (fun b hb => absurd hb (by simp)) (fun b o hb _ _ e _ => N b o e hb) (fun b o hb _ _ e _ => ⟨o.slots, N b o e hb⟩) (fun b o _ e n => n) (fun b o _ e => ?_) (fun b xs e => e) (fun b o u e => e) (fun b qs e => ⟨#[], by rw [e]; simp⟩)
    (fun m' hn => ?_) (fun b u e => ?_) I.bare
  · by_cases hb : b = X.env.locals
    · obtain ⟨o', _, _, e', _⟩ := nm'
      exact ⟨o', by rw [hb]; exact e'⟩
    · exact ⟨o, N b o e hb⟩
  · rw [ns_one nm hn]
    exact nm'
  · refine (I.hok b u e).stay (fun d v hd q => N d v q ?_) (fun d q => q) fun d xs q => q
    rcases hd with z | z
    · rw [z]
      exact nL b u e
    · exact nL d _ z
/-- what stood stands, and D is new -/
theorem inv_new {h : Heap} {tk : Nat} {D : Addr} {o : HO} (I : Inv X pins σ H s) (nm : s.heap.Ns X.env.locals m) (nm' : h.Ns X.env.locals m) (N : ∀ b o, s.heap.get? b = some o → b ≠ X.env.locals → h.get? b = some o) (hD : s.heap.get? D = none)
    (hDo : ObjOk X.prog X.w (upd H D o) h D o) : Inv X pins σ (upd H D o) { s with heap := h, toks := tk } := by
  have nL : ∀ b u, H b = some u → b ≠ X.env.locals := fun b u e z => by
    rw [z, I.free] at e
    cases e
  have nD : ∀ b u, H b = some u → b ≠ D := fun b u e z => by
    obtain ⟨ob, q⟩ := objOk_get (I.hok b u e)
    rw [z, hD] at q
    cases q
  have sD : ∀ b ob, s.heap.get? b = some ob → b ≠ D := fun b ob e z => by
    rw [z, hD] at e
    cases e
  refine I.step (g' := s.gens) (d' := s.drawn) (ch := []) (fun b hb => absurd hb (by simp)) (fun b o hb _ _ e _ => N b o e hb) (fun b o hb _ _ e _ => ⟨o.slots, N b o e hb⟩) (fun b o _ e n => by rw [upd_ne (sD b o e)]; exact n) (fun b o _ e => ?_)
    (fun b xs e => by rw [upd_ne (nD b _ e)]; exact e) (fun b o u e => by rw [upd_ne (nD b _ e)]; exact e) (fun b qs e => ⟨#[], by rw [upd_ne (nD b _ e), e]; simp⟩) (fun m' hn => ?_) (fun b u e => ?_) I.bare
  · by_cases hb : b = X.env.locals
    · obtain ⟨o', _, _, e', _⟩ := nm'
      exact ⟨o', by rw [hb]; exact e'⟩
    · exact ⟨o, N b o e hb⟩
  · rw [ns_one nm hn]
    exact nm'
  · by_cases hb : b = D
    · rw [hb, upd_same] at e
      cases e
      rw [hb]
      exact hDo
    · rw [upd_ne hb] at e
      refine (I.hok b u e).stay (fun d v hd q => N d v q ?_) (fun d q => by rw [upd_ne (nD d _ q)]; exact q) fun d xs q => by rw [upd_ne (nD d _ q)]; exact q
      rcases hd with z | z
      · rw [z]
        exact nL b u e
      · exact nL d _ z
end
mutual
inductive Flat : PyData → Prop
  | int (i : Int) : Flat (.int i)
  | str (x : Str) : Flat (.str x)
  | tup {ds : List PyData} : FlatAll ds → Flat (.tuple ds)
inductive FlatAll : List PyData → Prop
  | nil : FlatAll []
  | cons {d : PyData} {ds : List PyData} : Flat d → FlatAll ds → FlatAll (d :: ds)
end
mutual
theorem flat_reads {h h' : Heap} (k : ∀ b o vs n, h.get? b = some o → o.cls = .type "tuple" → o.data = .seq vs n → h'.get? b = some o) : ∀ (d : PyData) (v : Value) (as : List Addr), Flat d → Reads h v d as → Reads h' v d as
  | .none, _, _, f, _ => by cases f
  | .bool _, _, _, f, _ => by cases f
  | .int i, _, _, _, r => by
    cases r
    exact Reads.int i _
  | .str x, _, _, _, r => by
    cases r
    exact Reads.str x _
  | .list _, _, _, f, _ => by cases f
  | .dict _, _, _, f, _ => by cases f
  | .tuple ds, _, _, f, r => by
    cases f with
    | tup fa =>
      cases r with
      | tuple ho hc hd hr => exact Reads.tuple (k _ _ _ _ ho hc hd) hc hd (flat_all k ds _ _ fa hr)
theorem flat_all {h h' : Heap} (k : ∀ b o vs n, h.get? b = some o → o.cls = .type "tuple" → o.data = .seq vs n → h'.get? b = some o) : ∀ (ds : List PyData) (vs : List Value) (as : List Addr), FlatAll ds → ReadsAll h vs ds as → ReadsAll h' vs ds as
  | [], _, _, _, r => by
    cases r
    exact ReadsAll.nil
  | d :: ds, _, _, f, r => by
    cases f with
    | cons f1 f2 =>
      cases r with
      | cons r1 r2 => exact ReadsAll.cons (flat_reads k d _ _ f1 r1) (flat_all k ds _ _ f2 r2)
end
theorem all_length {h : Heap} : ∀ {vs : List Value} {ds : List PyData} {as : List Addr}, ReadsAll h vs ds as → vs.length = ds.length
  | [], _, _, r => by
    cases r
    rfl
  | v :: vs, _, _, r => by
    cases r with
    | cons _ r2 => exact congrArg (· + 1) (all_length r2)
abbrev wayKey (b : V × List PyData) : PyData := .tuple [.int b.2.length, .tuple b.2]
def tSortKey (K : PySem.W.Frag) (T : List (Addr × Str)) (t : TA) : TE := fun σ H Q => t σ H fun vs H1 => LamX.Tabs T H1 ∧ ∀ H2, LamX.ExtN H1 H2 → LamX.Tabs T H2 → ∃ (a : Addr) (bs : List (V × List PyData)), vs = [.ref a] ∧ SqL K H2 a (bs.map Prod.fst) ∧ bs.length ≤ 1000000 ∧
  (∀ b ∈ bs, Dp K H2 b.1 (.tuple b.2) ∧ FlatAll b.2 ∧ (wayKey b).depth ≤ 64 ∧ b.2.length ≤ 1000000) ∧ PySem.W.AllAlike (bs.map wayKey) ∧ ∀ p, H2 p = none → Q (.ref p) (upd H2 p (.lst ((bs.mergeSort (PySem.W.dataLe false wayKey)).map Prod.fst)))
theorem each_in {α : Type} : ∀ {bs : List (V × α)} {its : List Value}, Vals (bs.map Prod.fst) its → PySem.W.EachIs (fun v (b : V × α) => RelV b.1 v) its bs
  | [], _, h => by
    cases h
    exact .nil
  | b :: bs, _, h => by
    cases h with
    | cons h1 h2 => exact .cons h1 (each_in h2)
theorem each_out {α : Type} : ∀ {out : List Value} {bs : List (V × α)}, PySem.W.EachIs (fun v (b : V × α) => RelV b.1 v) out bs → Vals (bs.map Prod.fst) out
  | _, _, .nil => .nil
  | _, _, .cons h1 h2 => .cons h1 (each_out h2)
section
variable {X : Cx}
open Classical in
theorem pe_sortKey {T : List (Addr × Str)} {c P : Addr} {k : Nat} {arg : Expr} {t : TA} {p pos kp lpos p0 p1 p2 p3 p4 p5 : Pos} (hr : Room (k + 2) X.A) (hg : Gl X "sorted") (hm : X.mg "sorted" = none) (hml : X.mg "len" = none) (TB : LamX.TabB X.base X.mg c P) (hcode : X.env.code = .ref c)
    (hmT : (P, X.env.qual ++ "<lambda>") ∈ T) (hu : ∀ p ∈ T, p.1 = P → p.2 = X.env.qual ++ "<lambda>") (ha : PA X [arg] t)
    (he : backTo pos (starEach [arg] X.env) = (false, eval arg X.env) :: backTo pos (starEach [] X.env) := by rfl) (hpl : (backTo pos (starEach [arg] X.env)).any (·.1) = false := by rfl) :
    PE X (.Call (.Name "sorted" p) [arg] [{ arg := some "key", value := .Lambda (wayParams p0) (wayBody p1 p2 p3 p4 p5) wayScope lpos, pos := kp }] pos) (tSortKey X.K T t) := by
  refine ⟨fun pins s σ H Q I h => ?_⟩
  refine wpAny_Call_Name_kw (ld_blt I hg hm rfl ?_)
  refine PyProof.Rows.callWith_kw (thn (ha.run pos pins s σ H _ I h) fun us s1 ⟨vs, H1, I1, r1, T1, q1⟩ => ?_) he hpl rfl rfl
  refine PyProof.Rows.kws_cons (LamX.lam_make2 I1 TB hcode hmT hu T1 rfl (fun y hy e => ?_) fun f c' pm ctv H2 s2 I2 eN T2 hf hfn hfr hco => ?_)
  · have hy : y ∈ [(Str.ofString "way", NameKind.local), (Str.ofString "len", .globalImplicit)] := hy
    rcases List.mem_cons.mp hy with z | z
    · rw [z] at e
      cases e
    · rw [List.mem_singleton.mp z] at e
      cases e
  refine PyProof.Rows.kws_nil ?_
  obtain ⟨a, bs, rfl, hs, few, hb, al, q⟩ := q1 H2 eN T2
  rw [Vals.ref1 r1]
  show wpAny _ _ (call (.builtin "sorted") [.ref a] [(Str.ofString "key", .ref f)]) _ _ _
  obtain ⟨its, rv, hl, _⟩ := I2.list hs
  obtain ⟨m, nm, _⟩ := id I2.loc
  have F : Fr emp X.env.locals s2.heap m := ⟨nm, fun b o e => (by rw [emp_get] at e; cases e), Nat.zero_le _⟩
  have N : News emp X.env.locals s2.heap (standing s2.heap X.env.locals) := fun p hp => ⟨(mem_standing.mp hp).1, (mem_standing.mp hp).2, emp_get _⟩
  have notL : ∀ b o, s2.heap.get? b = some o → (∀ es ep, o.data ≠ .dict es ep) → b ≠ X.env.locals := fun b o e nd z => by
    obtain ⟨o', es, ep, e', d', _⟩ := nm
    rw [z, e'] at e
    cases e
    exact nd _ _ d'
  have un := hr.un
  have dp := hr.dp
  obtain ⟨⟨oc, cvs, ct, hoc, hdc, hvc⟩, _, _⟩ := I2.hok c' _ hco
  refine PySem.W.sorted_key_data_frame (b := false) (R := fun v (b : V × List PyData) => RelV b.1 v) (bs := bs) wayKey F N hl.isList (each_in rv) al (PySem.W.Sortable.tuples fun b => ⟨_, _, rfl⟩) (by rw [sizeLine_eq]; omega) (fun b hbm => by have := (hb b hbm).2.2.1; omega)
    (PyProof.Rows.ksk_s1 _ _) (fun x => PyProof.Rows.ksk_l1 _ _) (fun x => PyProof.Rows.ksk_t1 _ _) (fun v b rvb hbm h tk own F' N' => ?_) fun D out cc h' tk F' N' hD ho eo => ?_
  · have kk : ∀ b o, s2.heap.get? b = some o → b ≠ X.env.locals → h.get? b = some o := fun b o e hn => (N' (b, o) (List.mem_append_left _ (mem_standing.mpr ⟨e, hn⟩))).1
    have J : Inv X pins σ H2 { s2 with heap := h, toks := tk } := inv_news I2 nm F'.ns kk
    obtain ⟨as2, rd2⟩ := Dp.reads I2 _ _ _ (hb b hbm).1 rvb
    have rd0 := rd2
    cases rd2 with
    | @tuple a' o' vs' n' _ _ ho hc hd hrA =>
      have len := all_length hrA
      rw [Array.length_toList] at len
      have na : a' ≠ X.env.locals := notL _ _ ho fun es ep z => by
        rw [hd] at z
        cases z
      obtain ⟨mb, h1, h2⟩ := J.mod.blt
      have nf : f ≠ X.env.locals := notL _ _ hf fun es ep z => by cases z
      have ncd : c' ≠ X.env.locals := notL _ _ hoc fun es ep z => by
        rw [hdc] at z
        cases z
      have fit : (vs'.size : Int) < 2 ^ 63 := by
        have := (hb b hbm).2.2.2
        rw [len]
        omega
      refine way_call (mg := X.mg) (mb := mb) (s := { s2 with heap := h, toks := tk }) (its := vs') ?_ (kk _ _ hf nf) ⟨c', oc, cvs, ct, rfl, kk _ _ hoc ncd, hdc, hvc⟩ (J.mod.glob.keeps J.bk) hml (h1.keeps J.bk) (h2 "len" (by decide)) J.nolimit ⟨o', kk _ _ ho na, hc, n', hd⟩ fit fun g tk2 Tp t1 kp hT hT2 => ?_
      · show X.A.depth < recursionLimit
        omega
      have nT : Tp ≠ X.env.locals := Nat.ne_of_gt (Nat.lt_of_lt_of_le F'.ns.lt hT2)
      refine ⟨g, tk2, (Tp, { cls := .type "tuple", data := .seq #[.int vs'.size t1, .ref a'] }) :: (standing s2.heap X.env.locals).filter (fun p => decide (p.2.cls = .type "tuple")), rfl, fun h3 _ hm3 => ?_, fun p hp => ?_, ⟨F'.ns.keeps kp, fun b o e => (by rw [emp_get] at e; cases e), Nat.zero_le _⟩, fun p hp => ?_⟩
      · have fl := flat_reads (h := s2.heap) (h' := h3) (fun b' o vs n e1 e2 e3 => hm3 (b', o) (.tail _ (List.mem_filter.mpr ⟨mem_standing.mpr ⟨e1, notL _ _ e1 fun es ep z => by rw [e3] at z; cases z⟩, decide_eq_true e2⟩))) _ _ _ (Flat.tup (hb b hbm).2.1) rd0
        have i := Reads.int (h := h3) (b.2.length : Int) t1
        rw [← len] at i
        have all := ReadsAll.cons i (ReadsAll.cons fl ReadsAll.nil)
        rw [len] at all
        exact ⟨_, Reads.tuple (hm3 _ (.head _)) rfl rfl (by rw [← len] at all ⊢; exact all)⟩
      · rcases List.mem_cons.mp hp with z | z
        · rw [z]
        · exact of_decide_eq_true (List.mem_filter.mp z).2
      · rcases List.mem_append.mp hp with z | z
        · obtain ⟨e1, e2, e3⟩ := N' p z
          exact ⟨kp _ _ e1, e2, e3⟩
        · rcases List.mem_cons.mp z with z | z
          · rw [z]
            exact ⟨hT, nT, emp_get _⟩
          · obtain ⟨e1, e2⟩ := mem_standing.mp (List.mem_filter.mp z).1
            exact ⟨kp _ _ (kk _ _ e1 e2), e2, emp_get _⟩
  · have kk : ∀ b o, s2.heap.get? b = some o → b ≠ X.env.locals → h'.get? b = some o := fun b o e hn => (N' (b, o) (.tail _ (mem_standing.mpr ⟨e, hn⟩))).1
    obtain ⟨atD, nDL, _⟩ := N' _ (.head _)
    have sD : s2.heap.get? D = none := by
      cases z : s2.heap.get? D with
      | none => rfl
      | some o => exact absurd (hD (D, o) (mem_standing.mpr ⟨z, nDL⟩)) (Nat.lt_irrefl _)
    have nD : H2 D = none := by
      cases z : H2 D with
      | none => rfl
      | some u =>
        obtain ⟨ob, e⟩ := objOk_get (I2.hok D u z)
        rw [sD] at e
        cases e
    have short : ((bs.mergeSort (PySem.W.dataLe false wayKey)).map Prod.fst).length ≤ sizeLine := by
      rw [List.length_map, List.length_mergeSort, sizeLine_eq]
      omega
    exact ⟨.ref D, upd H2 D (.lst ((bs.mergeSort (PySem.W.dataLe false wayKey)).map Prod.fst)), inv_new I2 nm F'.ns kk sD ⟨short, out, cc, each_out eo, atD⟩, rfl, q D nD⟩
end
end Vf

set_option maxRecDepth 100000
set_option maxHeartbeats 4000000
namespace Vf
open PySem PySem.Spec PyProof.Rows L2
def waD (way : List (List Str)) : PyData := .tuple (way.map lnD)
def keyW (way : List (List Str)) : PyData := .tuple [.int way.length, waD way]
def sortW (ws : List (List (List Str))) : List (List (List Str)) := ws.mergeSort (PySem.W.dataLe false keyW)
theorem toks_ln2 : ∀ {xs ys : List Str} {r r' : List (Int ⊕ List Nat)}, PySem.W.keyToksAll (xs.map PyData.str) ++ r = PySem.W.keyToksAll (ys.map PyData.str) ++ r' → xs = ys ∧ r = r'
  | [], [], r, r', h => by
    simp only [List.map_nil, PySem.W.keyToksAll, List.cons_append, List.nil_append] at h
    injection h with _ h
    exact ⟨rfl, h⟩
  | [], y :: ys, _, _, h => by simp [PySem.W.keyToksAll] at h
  | x :: xs, [], _, _, h => by simp [PySem.W.keyToksAll] at h
  | x :: xs, y :: ys, _, _, h => by
    simp only [List.map_cons, PySem.W.keyToksAll, PySem.W.keyToks, List.cons_append, List.nil_append] at h
    injection h with _ h
    injection h with q1 h
    obtain ⟨e1, e2⟩ := toks_ln2 h
    exact ⟨by rw [str_eq (Sum.inr.inj q1), e1], e2⟩
theorem toks_wa : ∀ {xs ys : List (List Str)} {r r' : List (Int ⊕ List Nat)}, PySem.W.keyToksAll (xs.map lnD) ++ r = PySem.W.keyToksAll (ys.map lnD) ++ r' → xs = ys
  | [], [], _, _, _ => rfl
  | [], y :: ys, _, _, h => by simp [PySem.W.keyToksAll] at h
  | x :: xs, [], _, _, h => by simp [PySem.W.keyToksAll] at h
  | x :: xs, y :: ys, _, _, h => by
    rw [List.map_cons, List.map_cons, PySem.W.keyToksAll, PySem.W.keyToksAll, List.cons_append, List.cons_append, List.append_assoc, List.append_assoc] at h
    injection h with _ h
    unfold lnD at h
    rw [PySem.W.keyToks, PySem.W.keyToks] at h
    obtain ⟨e1, e2⟩ := toks_ln2 h
    rw [e1, toks_wa e2]
theorem keyW_anti {a b : List (List Str)} (h1 : PySem.W.dataLe false keyW a b = true) (h2 : PySem.W.dataLe false keyW b a = true) : a = b := by
  have e1 : (listOrd itemOrd).blt (PySem.W.keyToks (keyW b)) (PySem.W.keyToks (keyW a)) = false := Bool.not_eq_true' _ |>.mp h1
  have e2 : (listOrd itemOrd).blt (PySem.W.keyToks (keyW a)) (PySem.W.keyToks (keyW b)) = false := Bool.not_eq_true' _ |>.mp h2
  have e := (listOrd itemOrd).total _ _ e2 e1
  unfold keyW waD at e
  simp only [PySem.W.keyToks, PySem.W.keyToksAll, List.cons_append, List.nil_append] at e
  injection e with _ e
  injection e with _ e
  injection e with _ e
  exact toks_wa e
theorem sortW_perm (ws : List (List (List Str))) : (sortW ws).Perm ws := List.mergeSort_perm ws _
theorem sortW_same {a b : List (List (List Str))} (p : a.Perm b) : sortW a = sortW b :=
  List.Perm.eq_of_pairwise (le := fun a b => PySem.W.dataLe false keyW a b = true) (fun _ _ _ _ h1 h2 => keyW_anti h1 h2) (List.pairwise_mergeSort (dle_trans keyW) (dle_total keyW) a) (List.pairwise_mergeSort (dle_trans keyW) (dle_total keyW) b)
    ((sortW_perm a).trans (p.trans (sortW_perm b).symm))
theorem alike_wa : ∀ xs ys : List (List Str), PySem.W.alikeAll (xs.map lnD) (ys.map lnD) = true
  | [], _ => by rw [List.map_nil, PySem.W.alikeAll]
  | _ :: _, [] => by rw [List.map_cons, List.map_nil, PySem.W.alikeAll]
  | x :: xs, y :: ys => by
    rw [List.map_cons, List.map_cons, PySem.W.alikeAll, alike_wa xs ys, alike_ln]
    rfl
theorem alike_keyW (a b : List (List Str)) : PySem.W.alike (keyW a) (keyW b) = true := by
  unfold keyW waD
  simp only [PySem.W.alike, PySem.W.alikeAll, alike_wa, Bool.and_self]
theorem flat_strs : ∀ ws : List Str, FlatAll (ws.map PyData.str)
  | [] => .nil
  | _ :: ws => .cons (.str _) (flat_strs ws)
theorem flat_wa : ∀ way : List (List Str), FlatAll (way.map lnD)
  | [] => .nil
  | _ :: way => .cons (.tup (flat_strs _)) (flat_wa way)
theorem depthAll_ln : ∀ ls : List (List Str), PyData.depthAll (ls.map lnD) ≤ 1
  | [] => by simp [PyData.depthAll]
  | x :: ls => by
    have := depthAll_ln ls
    simp only [List.map_cons, PyData.depthAll, lnD, PyData.depth, depth_strs]
    omega
theorem depth_wa (way : List (List Str)) : (waD way).depth ≤ 2 := by
  have := depthAll_ln way
  unfold waD
  simp only [PyData.depth]
  omega
theorem depth_keyW (way : List (List Str)) : (keyW way).depth ≤ 3 := by
  have := depth_wa way
  unfold keyW
  simp only [PyData.depth, PyData.depthAll]
  omega
def fac : Nat → Nat
  | 0 => 1
  | n + 1 => (n + 1) * fac n
theorem len_bind {α β : Type} {f : α → List β} {n : Nat} : ∀ {l : List α}, (∀ a ∈ l, (f a).length ≤ n) → (l.flatMap f).length ≤ n * l.length
  | [], _ => Nat.zero_le _
  | a :: l, h => by
    have h1 := h a List.mem_cons_self
    have h2 := len_bind fun b hb => h b (List.mem_cons_of_mem _ hb)
    rw [List.flatMap_cons, List.length_append, List.length_cons, Nat.mul_succ]
    omega
section
variable {fit : List Str → Bool}
theorem withC_len {z : Str} {way : List (List Str)} : (withC fit z way).length ≤ way.length + 1 := by
  have h := List.length_filterMap_le (putI fit z way) (List.range way.length)
  rw [List.length_range] at h
  unfold withC
  rw [List.length_append]
  split <;> simp <;> omega
theorem part_len {ns : List Str} {way : List (List Str)} (p : Part fit ns way) : way.length ≤ ns.length ∧ ∀ ws ∈ way, ws.length ≤ ns.length := by
  have key : ∀ {l : List (List Str)}, (∀ ws ∈ l, ws ≠ []) → l.length ≤ l.flatten.length ∧ ∀ ws ∈ l, ws.length ≤ l.flatten.length := by
    intro l
    induction l with
    | nil => exact fun _ => ⟨Nat.le_refl _, fun _ h => nomatch h⟩
    | cons a l ih =>
      intro h
      obtain ⟨h1, h2⟩ := ih fun ws hw => h ws (List.mem_cons_of_mem _ hw)
      have h3 := List.length_pos_iff.mpr (h a List.mem_cons_self)
      rw [List.flatten_cons, List.length_append, List.length_cons]
      refine ⟨by omega, fun ws hw => ?_⟩
      rcases List.mem_cons.mp hw with rfl | hw
      · omega
      · have := h2 ws hw
        omega
  rw [← p.perm.length_eq]
  exact key p.ne
theorem ways_len (mono : ∀ a z, fit (a ++ [z]) = true → fit a = true) : ∀ (n : Nat) (ns : List Str), ns.length = n → ns.Pairwise ltS → (waysF fit ns).length ≤ fac n
  | 0, ns, h, _ => by
    rw [List.length_eq_zero_iff.mp h]
    exact Nat.le_refl _
  | n + 1, ns, h, asc => by
    obtain ⟨ms, z, rfl⟩ : ∃ ms z, ns = ms ++ [z] := by
      have hne : ns ≠ [] := fun e => by rw [e] at h; cases h
      exact ⟨ns.dropLast, ns.getLast hne, (List.dropLast_concat_getLast hne).symm⟩
    rw [List.length_append, List.length_singleton] at h
    have asc' := (List.pairwise_append.mp asc).1
    have ih := ways_len mono n ms (by omega) asc'
    have al := (ways_all mono ms.length ms rfl asc').2
    rw [ways_snoc]
    have := len_bind (n := n + 1) (l := waysF fit ms) (f := withC fit z) fun way hw => by
      have h1 := withC_len (fit := fit) (z := z) (way := way)
      have h2 := (part_len ((al way).mp hw)).1
      omega
    exact Nat.le_trans this (Nat.mul_le_mul_left _ ih)
theorem fac_le : ∀ {n m : Nat}, n ≤ m → fac n ≤ fac m := by
  intro n m h
  induction h with
  | refl => exact Nat.le_refl _
  | step h ih =>
    rename_i m
    show fac n ≤ (m + 1) * fac m
    exact Nat.le_trans ih (Nat.le_mul_of_pos_left _ (Nat.succ_pos _))
end
end Vf

set_option maxRecDepth 100000
set_option maxHeartbeats 4000000
namespace Vf
open PySem PySem.Spec PyProof.Rows L2
def rLenK (K : PySem.W.Frag) : List V → Hp → VK → Prop := fun xs H Q => ∃ p ys, xs = [.ref p] ∧ (SqL K H p ys ∨ SqT K H p ys) ∧ Q (.int ys.length) H
theorem cr_len {X : Cx} {K : PySem.W.Frag} (hK : X.K = K) : CallR X (.builtin "len") (rLenK K) := by
  subst hK
  exact call_len_seq
def rLst (K : PySem.W.Frag) : List V → Hp → VK → Prop := fun xs H Q => ∃ p ys, xs = [.ref p] ∧ (SqL K H p ys ∨ SqT K H p ys) ∧ ∀ l, H l = none → Q (.ref l) (upd H l (.lst ys))
theorem cr_lst {X : Cx} {K : PySem.W.Frag} (hK : X.K = K) : CallR X (.type "list") (rLst K) := by
  subst hK
  exact call_list_of
end Vf

set_option maxRecDepth 100000
set_option maxHeartbeats 8000000
namespace Vf
open PySem PySem.Spec PyProof.Rows L2
/-- all but two -/
def But2 (p d : Addr) (H1 H : Hp) : Prop := ∀ b o, b ≠ p → b ≠ d → H1 b = some o → H b = some o
theorem But2.trans {p d : Addr} {H1 H2 H3 : Hp} (a : But2 p d H1 H2) (s : But2 p d H2 H3) : But2 p d H1 H3 := fun b o h1 h2 e => s b o h1 h2 (a b o h1 h2 e)
theorem But.two {p d : Addr} {H1 H2 : Hp} (a : But p H1 H2) : But2 p d H1 H2 := fun b o h1 _ e => a b o h1 e
theorem Same.two {p d : Addr} {H1 H2 : Hp} (a : Same H1 H2) : But2 p d H1 H2 := fun b o _ _ e => a b o e
theorem But2.unlock {p d : Addr} {H H' : Hp} {u : HO} (a : But2 p d H H') (hd : H d = some u) : But p H (upd H' d u) := fun b o h1 e => by
  by_cases h : b = d
  · rw [h, hd] at e
    rw [h, upd_same]
    exact e
  · rw [upd_ne h]
    exact a b o h1 h e
theorem set_flat {ps : List (Addr × List Str)} : ∀ {k : Nat} {a L : Addr} {ws : List Str} {z : Str}, ps[k]? = some (a, ws) → ((ps.set k (L, ws ++ [z])).flatMap Prod.snd).Perm (ps.flatMap Prod.snd ++ [z]) := by
  induction ps with
  | nil => intro k a L ws z h; simp at h
  | cons q r ih =>
    intro k a L ws z h
    cases k with
    | zero =>
      obtain rfl : q = (a, ws) := Option.some.inj h
      rw [List.set_cons_zero, List.flatMap_cons, List.flatMap_cons, List.append_assoc, List.append_assoc]
      exact (List.perm_append_comm (l₁ := [z]) (l₂ := r.flatMap Prod.snd)).append_left ws
    | succ k =>
      rw [List.set_cons_succ, List.flatMap_cons, List.flatMap_cons, List.append_assoc]
      exact (ih (by simpa using h)).append_left q.2
theorem ixN_nat {n k : Nat} (h : k < n) : ixN n (k : Int) = some k := by
  unfold ixN
  rw [if_pos (by omega), if_pos (by omega)]
  simp
theorem total_app (cs : List (Str × Nat)) (a b : List Str) : total cs (a ++ b) = total cs a + total cs b := by
  unfold total
  rw [List.map_append, List.sum_append]
theorem total_one {cs : List (Str × Nat)} (g : GoodCs cs) {c : Str × Nat} (h : c ∈ cs) : total cs [c.1] = c.2 := by
  unfold total
  have : sizeOfD cs c.1 = c.2 := by unfold sizeOfD; rw [size_of_mem g.nd h]; rfl
  rw [List.map_cons, List.map_nil, List.sum_cons, List.sum_nil, this]
  rfl
theorem feed_ne {H : Hp} {p q : Addr} {ws : List Str} (f : FeedAt H p) (h : H q = some (.lst (ws.map V.str))) (hne : ws ≠ []) : q ≠ p := fun z => by
  obtain ⟨a, b, g, _⟩ := f
  rw [z, g] at h
  have e := HO.lst.inj (Option.some.inj h)
  cases ws with
  | nil => exact hne rfl
  | cons x r => cases (List.cons.inj e).1
section
variable {P : Program} {w : World} {K : PySem.W.Frag} {mg : Str → Option Value} {base : Heap}
/-- lines under way: the cells so far -/
structure HalfLines (H : Hp) (l p : Addr) (cs : List (Str × Nat)) (r i : Nat) (ps : List (Addr × List Str)) : Prop where
  at_ : H l = some (.lst (ps.map fun p => V.ref p.1))
  each : ∀ q ∈ ps, H q.1 = some (.lst (q.2.map V.str)) ∧ q.2 ≠ [] ∧ total cs q.2 ≤ r
  perm : (ps.flatMap Prod.snd).Perm ((cs.take i).map Prod.fst)
theorem HalfLines.ne {H : Hp} {l p : Addr} {cs : List (Str × Nat)} {r i : Nat} {ps : List (Addr × List Str)} (h : HalfLines H l p cs r i ps) {q : Addr × List Str} (hq : q ∈ ps) : q.1 ≠ l := fun z => by
  obtain ⟨e, hne, _⟩ := h.each q hq
  rw [z, h.at_] at e
  have e2 := HO.lst.inj (Option.some.inj e)
  cases e3 : q.2 with
  | nil => exact hne e3
  | cons x r =>
    rw [e3] at e2
    cases ps with
    | nil => cases hq
    | cons y ys => cases (List.cons.inj e2).1
theorem HalfLines.same {H H' : Hp} {l p : Addr} {cs : List (Str × Nat)} {r i : Nat} {ps : List (Addr × List Str)} (h : HalfLines H l p cs r i ps) (s : Same H H') : HalfLines H' l p cs r i ps :=
  ⟨s _ _ h.at_, fun q hq => ⟨s _ _ (h.each q hq).1, (h.each q hq).2⟩, h.perm⟩
theorem take_names {cs : List (Str × Nat)} {i : Nat} {c : Str × Nat} (hc : cs[i]? = some c) : (cs.take (i + 1)).map Prod.fst = (cs.take i).map Prod.fst ++ [c.1] := by
  rw [List.take_add_one, hc, List.map_append]
  rfl
theorem HalfLines.more {H : Hp} {l p n : Addr} {cs : List (Str × Nat)} {r i : Nat} {ps : List (Addr × List Str)} {c : Str × Nat} (h : HalfLines H l p cs r i ps) (g : GoodCs cs) (hc : cs[i]? = some c) (hr : maxOf cs ≤ r) (hn : H n = none) :
    HalfLines (upd (upd H n (.lst [.str c.1])) l (.lst ((ps.map fun q => V.ref q.1) ++ [.ref n]))) l p cs r (i + 1) (ps ++ [(n, [c.1])]) := by
  have hln : n ≠ l := (ne_of_none h.at_ hn).symm
  refine ⟨by rw [upd_same, List.map_append]; rfl, fun q hq => ?_, ?_⟩
  · rcases List.mem_append.mp hq with hq | hq
    · exact ⟨by rw [upd_ne (h.ne hq)]; exact same_new hn _ _ (h.each q hq).1, (h.each q hq).2⟩
    · obtain rfl := List.mem_singleton.mp hq
      refine ⟨by rw [upd_ne hln, upd_same]; rfl, by simp, ?_⟩
      show total cs [c.1] ≤ r
      rw [total_one g (List.mem_of_getElem? hc)]
      exact Nat.le_trans (size_le_max (List.mem_of_getElem? hc)) hr
  · rw [List.flatMap_append, take_names hc]
    exact h.perm.append (by simp)
theorem HalfLines.put {H : Hp} {l p a L : Addr} {cs : List (Str × Nat)} {r i k : Nat} {ps : List (Addr × List Str)} {ws : List Str} {c : Str × Nat} (h : HalfLines H l p cs r i ps) (hc : cs[i]? = some c) (hk : ps[k]? = some (a, ws)) (hL : H L = some (.lst ((ws ++ [c.1]).map V.str))) (hne : L ≠ l)
    (ht : total cs (ws ++ [c.1]) ≤ r) : HalfLines (upd H l (.lst ((ps.map fun q => V.ref q.1).set k (.ref L)))) l p cs r (i + 1) (ps.set k (L, ws ++ [c.1])) := by
  refine ⟨by rw [upd_same, List.map_set], fun q hq => ?_, ?_⟩
  · rcases List.mem_or_eq_of_mem_set hq with hq | rfl
    · exact ⟨by rw [upd_ne (h.ne hq)]; exact (h.each q hq).1, (h.each q hq).2⟩
    · exact ⟨by rw [upd_ne hne]; exact hL, by simp, ht⟩
  · rw [take_names hc]
    exact (set_flat hk).trans (h.perm.append_right _)
end
end Vf

set_option maxRecDepth 100000
set_option maxHeartbeats 16000000
namespace Vf
open PySem PySem.Spec PyProof.Rows L2
section
variable {P : Program} {w : World} {K : PySem.W.Frag} {mg : Str → Option Value} {base : Heap}
/-- a def by its body, its code object known -/
theorem Fun.okC {x qual : Str} {st : Stmt} {f c : Addr} {fd : FuncData} {N ps : List Str} {k : Nat} {sp : Sp} (F : Fun K x qual st f fd) (hc : fd.code = .ref c) (S : FnScope N ps (defScope st)) (len : ∀ vs H Q E, sp vs H Q E → vs.length = ps.length)
    (hbody : ∀ (A : Around) (outer : List Env) (s : Shared) (H : Hp) (vs : List V) (Q : VK) (E : XK), Room k (A.deeper (envOfC qual (defScope st) s.heap.objs.size f (.ref c))) → sp vs H Q E →
      ∃ t, PSs (cxOf CX0 P w K mg base N qual (defScope st) f (.ref c) A outer s H E).nox (defBody st) t ∧ t { nx := fun _ H' => Q .non H', rt := Q } (start N vs) H) : FnOk P w K mg base CX0 (k + 1) f fd ps sp := by
  obtain ⟨oc, od, kV, doc, pm, an, cdv, ct, osl, rfl, lk, hcd⟩ := F.ex
  obtain rfl : cdv = .ref c := hc
  refine fn_of lk hcd S len fun A outer s H vs Q E hr hsp => ?_
  obtain ⟨t, h, q⟩ := hbody A outer s H vs Q E hr hsp
  exact ⟨t, h.nox, q⟩
end
def scIn (y : Str) (more : List (Str × NameKind)) : Scope := { kind := .function, names := (Str.ofString ".0", .local) :: (y, .local) :: more, isGenerator := false, isCoroutine := false }
theorem blkIn {N : List Str} {sc sc' scope : Scope} {own : List (Str × Nat)} (h : blkC N sc scope own = true) (e : sc'.names = sc.names) : BlkOk N sc' scope own :=
  let b := blkOk_by h
  ⟨b.kind, b.uniq, b.ix, fun y hy hf => by rw [e]; exact b.free y hy hf, b.own⟩
theorem refs_of {α : Type} {H : Hp} {Pr : Addr → α → Hp → Prop} : ∀ (ls : List α) (xs : List V), xs.length = ls.length → (∀ (i : Nat) (a : α) (v : V), ls[i]? = some a → xs[i]? = some v → ∃ t, v = .ref t ∧ Pr t a H) →
    ∃ ps : List (Addr × α), xs = ps.map (fun q => V.ref q.1) ∧ ps.map Prod.snd = ls ∧ ∀ q ∈ ps, Pr q.1 q.2 H
  | [], [], _, _ => ⟨[], rfl, rfl, fun _ h => nomatch h⟩
  | [], _ :: _, h, _ => by simp at h
  | _ :: _, [], h, _ => by simp at h
  | a :: ls, v :: xs, h, hp => by
    obtain ⟨t, rfl, ht⟩ := hp 0 a v rfl rfl
    obtain ⟨ps, e1, e2, e3⟩ := refs_of (Pr := Pr) ls xs (by simpa using h) fun i a u h1 h2 => hp (i + 1) a u (by simpa using h1) (by simpa using h2)
    refine ⟨(t, a) :: ps, by rw [e1]; rfl, by rw [← e2]; rfl, fun q hq => ?_⟩
    rcases List.mem_cons.mp hq with rfl | hq
    · exact ht
    · exact e3 q hq
theorem SqT.ext {K : PySem.W.Frag} {H H' : Hp} {a : Addr} {xs : List V} (h : SqT K H a xs) (s : LamX.ExtN H H') : SqT K H' a xs := by
  rcases h with (h | ⟨o, h⟩) | h
  · exact .inl (.inl (s _ _ h (by intro ps z; cases z)))
  · exact .inl (.inr ⟨o, s _ _ h (by intro ps z; cases z)⟩)
  · exact .inr h
theorem WayAt.ext {K : PySem.W.Frag} {H H' : Hp} {a : Addr} {way : List (List Str)} (h : WayAt K H a way) (s : LamX.ExtN H H') : WayAt K H' a way := by
  obtain ⟨qs, h1, h2, h3⟩ := h
  exact ⟨qs, Vf.SqT.ext h1 s, fun q hq => Vf.SqT.ext (h2 q hq) s, h3⟩
theorem WaysAt.ext {K : PySem.W.Frag} {H H' : Hp} {l : Addr} {bs : List (Addr × List (List Str))} (h : WaysAt K H l bs) (s : LamX.ExtN H H') : WaysAt K H' l bs := ⟨s _ _ h.at_ (by intro ps z; cases z), fun b hb => (h.each b hb).ext s⟩
theorem WaysAt.join {K : PySem.W.Frag} {H : Hp} {l m : Addr} {bs cs : List (Addr × List (List Str))} (h : WaysAt K H l bs) (g : WaysAt K H m cs) : WaysAt K (upd H l (.lst ((bs.map fun b => V.ref b.1) ++ (cs.map fun b => V.ref b.1)))) l (bs ++ cs) :=
  ⟨by rw [upd_same, List.map_append], fun b hb => by
    rcases List.mem_append.mp hb with z | z
    · exact (h.each b z).put h.at_
    · exact (g.each b z).put h.at_⟩
theorem dp_way {K : PySem.W.Frag} {H : Hp} : ∀ {qs : List (Addr × List Str)}, (∀ q ∈ qs, SqT K H q.1 (q.2.map V.str)) → DpAll K H (qs.map fun q => V.ref q.1) ((qs.map Prod.snd).map lnD)
  | [], _ => .nil
  | q :: qs, h => .cons (.tup (h q List.mem_cons_self) (dp_strs _)) (dp_way fun q' hq => h q' (List.mem_cons_of_mem _ hq))
theorem WayAt.dp {K : PySem.W.Frag} {H : Hp} {a : Addr} {way : List (List Str)} (h : WayAt K H a way) : Dp K H (.ref a) (waD way) := by
  obtain ⟨qs, h1, h2, rfl⟩ := h
  exact .tup h1 (dp_way h2)
/-- the table of all_layouts, for its lambda -/
abbrev tabL (Tb : Addr) : List (Addr × Str) := [(Tb, ("all_layouts" : Str) ++ ".<locals>." ++ "<lambda>")]
/-- a list of layouts -/
structure LaysAt (C : Addr) (H : Hp) (l : Addr) (cs : List (Str × Nat)) (r : Nat) (bs : List (Addr × List (List Str))) : Prop where
  at_ : H l = some (.lst (bs.map fun b => V.ref b.1))
  each : ∀ b ∈ bs, ∃ sd nd, LayAt C H b.1 sd nd (srtCs cs) r b.2
theorem LaysAt.same {C : Addr} {H H' : Hp} {l : Addr} {cs : List (Str × Nat)} {r : Nat} {bs : List (Addr × List (List Str))} (h : LaysAt C H l cs r bs) (s : Same H H') : LaysAt C H' l cs r bs :=
  ⟨s _ _ h.at_, fun b hb => let ⟨sd, nd, lay⟩ := h.each b hb; ⟨sd, nd, lay.same s⟩⟩
theorem LayAt.but {C D : Addr} {H H' : Hp} {p sd nd : Addr} {cs : List (Str × Nat)} {r : Nat} {ls : List (List Str)} {xs : List V} (h : LayAt C H p sd nd cs r ls) (hD : H D = some (.lst xs)) (b : But D H H') : LayAt C H' p sd nd cs r ls := by
  obtain ⟨dx, t, qs, h1, h2, h3, h4, h5⟩ := h
  have go : ∀ {a : Addr} {o : HO}, H a = some o → o ≠ .lst xs → H' a = some o := fun e n => b _ _ (ne_of e hD n) e
  exact ⟨dx, t, qs, go h1 (by intro z; cases z), go h2 (by intro z; cases z), go h3 (by intro z; cases z), ⟨go h4.1 (by intro z; cases z), fun q hq => go (h4.2 q hq) (by intro z; cases z)⟩, h5⟩
/-- all ways for these cells, in their order -/
def allW (cs : List (Str × Nat)) (r : Nat) : List (List (List Str)) := sortW (waysF (fitB cs r) (srt (cs.map Prod.fst)))
theorem fit_mono (cs : List (Str × Nat)) (r : Nat) : ∀ a z, fitB cs r (a ++ [z]) = true → fitB cs r a = true := fun a z h => by
  unfold fitB at h ⊢
  rw [total_app] at h
  exact decide_eq_true (Nat.le_trans (Nat.le_add_right _ _) (of_decide_eq_true h))
section
variable {P : Program} {w : World} {K : PySem.W.Frag} {mg : Str → Option Value} {base : Heap}
def sp_all_layouts (C Tb : Addr) : Sp := fun vs H Q _ => ∃ (d : Addr) (cs : List (Str × Nat)) (r : Nat), vs = [.ref d, .int (r : Int)] ∧ H d = some (.dK (cellKv cs)) ∧ GoodCs cs ∧ 1 ≤ r ∧ r ≤ 32 ∧ LamX.Tabs (tabL Tb) H ∧
  ∀ l bs H', LamX.ExtN H H' → LamX.Tabs (tabL Tb) H' → LaysAt C H' l cs r bs → bs.map Prod.snd = allW cs r → Q (.ref l) H'
theorem ok_all_layouts {f C fI c Tb : Addr} {fd fdI : FuncData} (F : Fun K "all_layouts" "all_layouts" s_all_layouts f fd) (hcd : fd.code = .ref c) (TB : LamX.TabB base mg c Tb) (T : Txt0 K mg) (TL : TxtL K mg C) (GC : OkF P w K mg base CX0 "_check_cells" p_check_cells 3 sp_check_cells) (GR : OkF P w K mg base CX0 "_check_room" p_check_room 3 sp_check_room)
    (GW : OkF P w K mg base CX0 "_with_cell" p_with_cell 2 (sp_with_cell K)) (M : Mk K C fI) (GI : FnOk P w K mg base CX0 4 fI fdI p_Layout_init (sp_Layout_init C)) (bI : Binds K fdI p_Layout_init []) :
    FnOk P w K mg base CX0 6 f fd p_all_layouts (sp_all_layouts C Tb) := by
  refine Vf.Fun.okC F hcd sc_all_layouts (fun vs H Q E h => ?_) (fun A outer s H vs Q E hr h => ?_)
  · obtain ⟨d, cs, r, rfl, _⟩ := h
    rfl
  · obtain ⟨d, cs, r, rfl, hd, g, r1, r32, tb, k⟩ := h
    refine ⟨_, pss_cons (ps_expr (pe_fn GC (hr.mono (by decide)) rfl pass0 (pa_cons (pv 0) pa_nil))) (pss_cons (ps_expr (pe_fn GR (hr.mono (by decide)) rfl pass0 (pa_cons (pv 1) pa_nil)))
      (pss_cons (ps_set (i := 2) sc_all_layouts.nd rfl (Or.inl rfl) (pe_lst (pa_cons (pe_tup pa_nil) pa_nil)))
      (pss_cons (ps_for PassesOwn.never rfl (pi_list (pe_callB (call_sortedD rfl) (by rfl) T.sorted (by decide +kernel) (pa_cons (pv 0) pa_nil))) (pg_name (i := 3) sc_all_layouts.nd rfl (Or.inl rfl))
        (pss_cons (ps_set (i := 4) sc_all_layouts.nd rfl (Or.inl rfl) (pe_lst pa_nil))
        (pss_cons (ps_for PassesOwn.never rfl (pi_list (pv 2)) (pg_name (i := 5) sc_all_layouts.nd rfl (Or.inl rfl))
          (pss_one (ps_expr (pe_bm PySem.F.plainAttrs_list PySem.F.slot_list_extend PySem.F.type_list_extend mt_extend (pv 4) (pa_cons (pe_fn GW (hr.mono (by decide)) rfl pass0 (pa_cons (pv 0) (pa_cons (pv 1) (pa_cons (pv 5) (pa_cons (pv 3) pa_nil))))) pa_nil)))))
        (pss_one (ps_set (i := 2) sc_all_layouts.nd rfl (Or.inl rfl) (pv 4))))))
      (pss_cons (ps_set (i := 2) sc_all_layouts.nd rfl (Or.inl rfl) (pe_sortKey (T := tabL Tb) (k := 3) hr rfl T.sorted T.len TB rfl (List.mem_singleton.mpr rfl) (fun p hp _ => by rw [List.mem_singleton.mp hp]; rfl) (pa_cons (pv 2) pa_nil)))
      (pss_one (ps_ret (pe_lc (own := [("lines", 5)]) (g := gName 5) (tt := tYes) rfl sc_all_layouts.nd (pi_list (pv 2)) (blkOk_by (N := n_all_layouts) (sc := defScope s_all_layouts) (by decide +kernel))
          (fun _ _ _ _ _ => pg_name (i := 5) sc_all_layouts.nd rfl (Or.inl rfl)) (fun _ _ _ _ _ => pts_nil)
          (fun _ _ _ _ _ => pe_make M GI hr rfl TL.mgC bI .nil pass0 (pa_cons (pv 0) (pa_cons (pv 1) (pa_cons
            (pe_lc (wi := iTup K (tVar 5)) (own := [("line", 6)]) (g := gName 6) (tt := tYes) rfl sc_all_layouts.nd (pi_tup (pv 5)) (blkIn (N := n_all_layouts) (sc := scIn "lines" [("Layout", .globalImplicit), ("cells", .cell), ("room", .cell)]) (by decide +kernel) (by rfl))
              (fun _ _ _ _ _ => pg_name (i := 6) sc_all_layouts.nd rfl (Or.inl rfl)) (fun _ _ _ _ _ => pts_nil) (fun _ _ _ _ _ => pe_callTy (cr_lst (K := K) rfl) (by rfl) T.list (by decide +kernel) (pa_cons (pv 6) pa_nil))) pa_nil))))))))))), ?_⟩
    have few := g.few
    have fit := fit_mono cs r
    have asc := srt_asc g.nd
    have znd := srt_perm (cs.map Prod.fst)
    have zl : (srt (cs.map Prod.fst)).length = cs.length := by rw [znd.length_eq, List.length_map]
    have part : ∀ i way, way ∈ waysF (fitB cs r) ((srt (cs.map Prod.fst)).take i) → Part (fitB cs r) ((srt (cs.map Prod.fst)).take i) way := fun i way h => ((ways_all fit _ _ rfl (asc.sublist (List.take_sublist _ _))).2 way).mp h
    have lens : ∀ i, (waysF (fitB cs r) ((srt (cs.map Prod.fst)).take i)).length ≤ 720 := fun i => Nat.le_trans (ways_len fit _ _ rfl (asc.sublist (List.take_sublist _ _))) (Nat.le_trans (fac_le (m := 6) (by rw [List.length_take]; omega)) (by decide))
    have tkl : ∀ i, ((srt (cs.map Prod.fst)).take i).length ≤ 6 := fun i => by rw [List.length_take]; omega
    refine ⟨_, rfl, d, cs, rfl, hd, g, fun H1 s1 => ⟨_, rfl, r, rfl, r1, r32, ?_⟩⟩
    refine ⟨Nat.zero_le _, fun e1 he1 => ⟨(by show 1 ≤ sizeLine; decide), fun wl hwl => ?_⟩⟩
    have s2 := s1.trans ((same_new (o := .tup []) he1).trans (same_new (o := .lst [.ref e1]) hwl))
    have w2 : WaysAt K (upd (upd H1 e1 (.tup [])) wl (.lst [.ref e1])) wl [(e1, [])] := ⟨upd_same, fun b hb => by
      rw [List.mem_singleton.mp hb]
      exact ⟨[], SqT.of (same_new hwl _ _ upd_same), (fun q hq => nomatch hq), rfl⟩⟩
    generalize (upd (upd H1 e1 (.tup [])) wl (.lst [.ref e1])) = H2 at s2 w2 ⊢
    refine ⟨_, rfl, d, cellKv cs, cs.map Prod.fst, rfl, .inl (s2 _ _ hd), cell_keys cs, by rw [List.length_map]; omega, fun zs q1 hz1 hz2 hq1 => ?_⟩
    obtain rfl : zs = srt (cs.map Prod.fst) := srt_of hz1 hz2
    have s3 := s2.trans (same_new (o := .lst ((srt (cs.map Prod.fst)).map V.str)) hq1)
    have w3 := w2.same (same_new (o := .lst ((srt (cs.map Prod.fst)).map V.str)) hq1)
    have e3 : (upd H2 q1 (.lst ((srt (cs.map Prod.fst)).map V.str))) q1 = some (.lst ((srt (cs.map Prod.fst)).map V.str)) := upd_same
    generalize (upd H2 q1 (.lst ((srt (cs.map Prod.fst)).map V.str))) = H3 at s3 w3 e3 ⊢
    have wz : Walk (Itl K q1) (srt (cs.map Prod.fst)).length (fun H => SqL K H q1 ((srt (cs.map Prod.fst)).map V.str)) (YAt ((srt (cs.map Prod.fst)).map V.str)) := (walk_list (K := K) (a := q1) (xs := (srt (cs.map Prod.fst)).map V.str) |> fun z => by rw [List.length_map] at z; exact z)
    refine ⟨q1, rfl, ⟨_, SqL.of e3⟩, for_it wz (fun i σ H' => ∃ v3 v4 v5 v6 wl bs, σ = [some (.ref d), some (.int (r : Int)), some (.ref wl), v3, v4, v5, v6] ∧ Same H3 H' ∧ WaysAt K H' wl bs ∧ bs.map Prod.snd = waysF (fitB cs r) ((srt (cs.map Prod.fst)).take i))
      ⟨_, _, _, _, wl, [(e1, [])], rfl, Same.refl _, w3, rfl⟩ (fun i σ H' _ ⟨_, _, _, _, _, _, _, s, _⟩ => SqL.of (s _ _ e3)) ?_ ?_⟩
    · rintro i x σ H4 H5 hi ⟨v3, v4, v5, v6, wl, bs, rfl, s4, w4, e4⟩ ⟨rfl, hx⟩
      have hj : (srt (cs.map Prod.fst))[i]? = some (srt (cs.map Prod.fst))[i] := List.getElem?_eq_getElem hi
      generalize (srt (cs.map Prod.fst))[i] = z at hj
      rw [List.getElem?_map, hj] at hx
      obtain rfl : V.str z = x := Option.some.inj hx
      have hzin := znd.mem_iff.mp (List.mem_of_getElem? hj)
      have tk : (srt (cs.map Prod.fst)).take (i + 1) = (srt (cs.map Prod.fst)).take i ++ [z] := by rw [List.take_add_one, hj]; rfl
      refine ⟨Nat.zero_le _, fun ll hll => ?_⟩
      have s5 := s4.trans (same_new (o := .lst []) hll)
      have w5 := w4.same (same_new (o := .lst []) hll)
      have n5 : WaysAt K (upd H5 ll (.lst [])) ll [] := ⟨upd_same, fun b hb => nomatch hb⟩
      have lb : bs.length ≤ 720 := by
        have := lens i
        rw [← e4, List.length_map] at this
        exact this
      have wb : Walk (Itl K wl) bs.length (fun H => SqL K H wl (bs.map fun b => V.ref b.1)) (YAt (bs.map fun b => V.ref b.1)) := (walk_list (K := K) (a := wl) (xs := bs.map fun b => V.ref b.1) |> fun z => by rw [List.length_map] at z; exact z)
      refine ⟨_, rfl, wl, rfl, ⟨_, SqL.of w5.at_⟩, for_it wb (fun j σ H' => ∃ v5 v6 bs2, σ = [some (.ref d), some (.int (r : Int)), some (.ref wl), some (.str z), some (.ref ll), v5, v6] ∧ Same H5 H' ∧ WaysAt K H' ll bs2 ∧ bs2.map Prod.snd = ((bs.take j).map Prod.snd).flatMap (withC (fitB cs r) z))
        ⟨_, _, [], rfl, same_new hll, n5, rfl⟩ (fun j σ H' _ ⟨_, _, _, _, s, _⟩ => SqL.of (s _ _ w4.at_)) ?_ ?_⟩
      · rintro j y σ H6 H7 hjb ⟨v5', v6', bs2, rfl, s6, n6, e6⟩ ⟨rfl, hy⟩
        have hb : bs[j]? = some bs[j] := List.getElem?_eq_getElem hjb
        generalize bs[j] = b at hb
        have hbm := List.mem_of_getElem? hb
        rw [List.getElem?_map, hb] at hy
        obtain rfl : V.ref b.1 = y := Option.some.inj hy
        have pb : Part (fitB cs r) ((srt (cs.map Prod.fst)).take i) b.2 := part i b.2 (by rw [← e4]; exact List.mem_map_of_mem hbm)
        obtain ⟨pl1, pl2⟩ := part_len pb
        have t6 := tkl i
        have tk2 : ((bs.take (j + 1)).map Prod.snd).flatMap (withC (fitB cs r) z) = ((bs.take j).map Prod.snd).flatMap (withC (fitB cs r) z) ++ withC (fitB cs r) z b.2 := by
          rw [List.take_add_one, hb, List.map_append, List.flatMap_append]
          simp
        have lb2 : bs2.length ≤ 7 * 720 := by
          have h1 := len_bind (n := 7) (l := (bs.take j).map Prod.snd) (f := withC (fitB cs r) z) fun way hw => by
            obtain ⟨b', hb', rfl⟩ := List.mem_map.mp hw
            have pb' := (part_len (part i b'.2 (by rw [← e4]; exact List.mem_map_of_mem (List.mem_of_mem_take hb')))).1
            have := withC_len (fit := fitB cs r) (z := z) (way := b'.2)
            omega
          rw [← e6, List.length_map, List.length_map, List.length_take] at h1
          omega
        refine ⟨_, rfl, .inl ⟨rfl, _, SqL.of n6.at_⟩, _, rfl, _, rfl, _, rfl, _, rfl, d, b.1, cs, r, b.2, z, rfl, s6 _ _ (s4 _ _ (s3 _ _ hd)), (w4.each b hbm).same s6, hzin, fun ws hw y hy => ?_, by omega, fun ws hw => by have := pl2 ws hw; omega, fun D bsD H8 s8 hD wD eD => ?_⟩
        · exact znd.mem_iff.mp (List.mem_of_mem_take (pb.perm.mem_iff.mp (List.mem_flatten.mpr ⟨ws, hw, hy⟩)))
        have n8 := n6.same s8
        have lD : bsD.length ≤ 7 := by
          have := withC_len (fit := fitB cs r) (z := z) (way := b.2)
          rw [← eD, List.length_map] at this
          omega
        refine ⟨ll, D, _, _, rfl, rfl, n8.at_, wD.at_, by rw [List.length_map, List.length_map, sizeLine_eq]; omega, ?_⟩
        refine ⟨_, _, bs2 ++ bsD, rfl, same_at (s6.trans s8) hll, n8.join wD, ?_⟩
        rw [List.map_append, e6, eD, tk2]
      · rintro σ H6 ⟨v5', v6', bs2, rfl, s6, n6, e6⟩
        refine ⟨_, rfl, ⟨_, _, _, _, ll, bs2, rfl, s4.trans s6, n6, ?_⟩⟩
        rw [tk, ways_snoc, e6, List.take_length, e4]
    · rintro σ H4 ⟨v3, v4, v5, v6, wl, bs, rfl, s4, w4, e4⟩
      rw [List.take_of_length_le (Nat.le_refl _)] at e4
      have lb : bs.length ≤ 720 := by
        have := lens (srt (cs.map Prod.fst)).length
        rw [List.take_of_length_le (Nat.le_refl _), ← e4, List.length_map] at this
        exact this
      have pt : ∀ b ∈ bs, Part (fitB cs r) (srt (cs.map Prod.fst)) b.2 := fun b hb => by
        have := part (srt (cs.map Prod.fst)).length b.2
        rw [List.take_of_length_le (Nat.le_refl _)] at this
        exact this (by rw [← e4]; exact List.mem_map_of_mem hb)
      have s04 := s3.trans s4
      have tb4 := tb.ext s04
      refine ⟨_, rfl, tb4, fun H5 eN T5 => ⟨wl, bs.map (fun b => (V.ref b.1, b.2.map lnD)), rfl, ?_, by rw [List.length_map]; omega, fun q hq => ?_, fun x hx y hy => ?_, fun S hS => ?_⟩⟩
      · rw [List.map_map]
        exact SqL.of (w4.ext eN).at_
      · obtain ⟨b, hb, rfl⟩ := List.mem_map.mp hq
        refine ⟨((w4.ext eN).each b hb).dp, flat_wa _, ?_, ?_⟩
        · have h1 := depthAll_ln b.2
          simp only [wayKey, PyData.depth, PyData.depthAll]
          omega
        · have := (part_len (pt b hb)).1
          rw [List.length_map]
          omega
      · obtain ⟨q, hq, rfl⟩ := List.mem_map.mp hx
        obtain ⟨q', hq', rfl⟩ := List.mem_map.mp hy
        obtain ⟨b, _, rfl⟩ := List.mem_map.mp hq
        obtain ⟨b', _, rfl⟩ := List.mem_map.mp hq'
        simp only [wayKey, PySem.W.alike, PySem.W.alikeAll, alike_wa, Bool.and_self]
      · have w5 := w4.ext eN
        have hd5 : H5 d = some (.dK (cellKv cs)) := eN _ _ (s04 _ _ hd) (by intro ps z; cases z)
        have em : ((bs.map (fun b => (V.ref b.1, b.2.map lnD))).mergeSort (PySem.W.dataLe false wayKey)) = (bs.mergeSort fun a b => PySem.W.dataLe false keyW a.2 b.2).map (fun b => (V.ref b.1, b.2.map lnD)) := by
          refine (List.map_mergeSort (f := fun b : Addr × List (List Str) => (V.ref b.1, b.2.map lnD)) fun a _ b _ => ?_).symm
          rw [PySem.W.dataLe_eq, PySem.W.dataLe_eq]
          simp only [wayKey, keyW, waD, List.length_map]
        have ew : (bs.mergeSort fun a b => PySem.W.dataLe false keyW a.2 b.2).map Prod.snd = allW cs r := by
          unfold allW sortW
          rw [← e4]
          exact List.map_mergeSort (f := Prod.snd) fun _ _ _ _ => rfl
        have ep := List.mergeSort_perm bs fun a b => PySem.W.dataLe false keyW a.2 b.2
        rw [em, List.map_map]
        generalize (bs.mergeSort fun a b => PySem.W.dataLe false keyW a.2 b.2) = rs at ew ep ⊢
        have s6 := same_new (o := .lst (rs.map (Prod.fst ∘ fun b => (V.ref b.1, b.2.map lnD)))) hS
        have e6 : (upd H5 S (.lst (rs.map (Prod.fst ∘ fun b => (V.ref b.1, b.2.map lnD))))) S = some (.lst (rs.map fun b => V.ref b.1)) := upd_same
        generalize (upd H5 S (.lst (rs.map (Prod.fst ∘ fun b => (V.ref b.1, b.2.map lnD))))) = H6 at s6 e6 ⊢
        have lr : rs.length ≤ 720 := by rw [ep.length_eq]; exact lb
        have ws : Walk (Itl K S) rs.length (fun H => SqL K H S (rs.map fun b => V.ref b.1)) (YAt (rs.map fun b => V.ref b.1)) := (walk_list (K := K) (a := S) (xs := rs.map fun b => V.ref b.1) |> fun z => by rw [List.length_map] at z; exact z)
        refine ⟨_, rfl, S, rfl, ⟨_, SqL.of e6⟩, fun D hD => lc_ad rs ws hD (fun b v H => ∃ p, v = .ref p ∧ ∃ sd nd, LayAt C H p sd nd (srtCs cs) r b.2) (by omega) (fun H7 s7 => SqL.of (s7 _ _ e6)) ?_ ?_⟩
        · rintro i b x H7 H8 hb s7 ⟨acc, hacc⟩ ⟨rfl, hx⟩ R hR
          rw [List.getElem?_map, hb] at hx
          obtain rfl : V.ref b.1 = x := Option.some.inj hx
          have hbm := ep.mem_iff.mp (List.mem_of_getElem? hb)
          have s57 := s6.trans s7
          obtain ⟨qs, h1, h2, h3⟩ := ((w5.each b hbm).same s57).ex
          have pb := pt b hbm
          obtain ⟨pl1, pl2⟩ := part_len pb
          have lq : qs.length ≤ 6 := by
            rw [← h3, List.length_map] at pl1
            omega
          have wq : Walk (Itt K b.1) qs.length (fun H => SqT K H b.1 (qs.map fun q => V.ref q.1)) (YAt (qs.map fun q => V.ref q.1)) := (walk_tup (K := K) (a := b.1) (xs := qs.map fun q => V.ref q.1) |> fun z => by rw [List.length_map] at z; exact z)
          refine ⟨rfl, _, rfl, _, rfl, _, rfl, b.1, rfl, ⟨_, h1⟩, fun L hL => lc_ad qs wq hL (fun q v H => ∃ t, v = .ref t ∧ H t = some (.lst (q.2.map V.str))) (by omega) (fun H9 s9 => Vf.SqT.same h1 s9) ?_ ?_⟩
          · rintro j q y H9 H10 hq s9 ⟨acc2, hacc2⟩ ⟨rfl, hy⟩ R2 hR2
            rw [List.getElem?_map, hq] at hy
            obtain rfl : V.ref q.1 = y := Option.some.inj hy
            refine ⟨rfl, _, rfl, q.1, _, rfl, .inr (Vf.SqT.same (h2 q (List.mem_of_getElem? hq)) s9), fun t ht => ?_⟩
            exact hR2 (.ref t) _ (same_new ht) fun H11 b11 => ⟨t, rfl, b11 t _ (ne_of_none hacc2 ht).symm upd_same⟩
          · intro H9 xs s9 hL9 hlen hpr
            obtain ⟨ps, rfl, eps, hps⟩ := refs_of (Pr := fun t (q : Addr × List Str) H => H t = some (.lst (q.2.map V.str))) qs xs hlen hpr
            refine fun x dx hx hdx hne => ?_
            have s0 : Same H9 (upd (upd H9 dx (.own x)) x (.ins C dx [])) := same_upd (same_new hdx) hx
            have s19 := s57.trans s9
            have eway : (ps.map fun p => (p.1, p.2.2)).map Prod.snd = b.2 := by
              rw [← h3, ← eps, List.map_map, List.map_map]
              rfl
            have il : InLines H9 L cs r (ps.map fun p => (p.1, p.2.2)) := by
              refine ⟨by rw [hL9, List.map_map]; rfl, fun p hp => ?_, ?_⟩
              · obtain ⟨p', hp', rfl⟩ := List.mem_map.mp hp
                have hin : p'.2.2 ∈ b.2 := by
                  rw [← eway]
                  exact List.mem_map.mpr ⟨_, hp, rfl⟩
                exact ⟨hps p' hp', pb.ne _ hin, of_decide_eq_true (pb.fits _ hin)⟩
              · have e : (ps.map fun p => (p.1, p.2.2)).flatMap Prod.snd = b.2.flatten := by
                  rw [← eway]
                  exact List.flatMap_def
                rw [e]
                exact pb.perm.trans znd
            have elin : linesOf (ps.map fun p => (p.1, p.2.2)) = b.2 := by
              unfold linesOf
              have e : ((ps.map fun p => (p.1, p.2.2)).map fun p => srt p.2) = b.2.map srt := by
                rw [← eway, List.map_map, List.map_map, List.map_map]
                rfl
              rw [e, (part_ord pb).1, (part_ord pb).2]
            refine ⟨x, dx, d, L, cs, r, _, rfl, upd_same, s0 _ _ (s19 _ _ hd5), g, r1, r32, il.same s0, fun H' sd nd bt hsd hnd hsn lay => ⟨rfl, ?_⟩⟩
            rw [elin] at lay
            have s9' : Same H9 H' := bt.same s0 hx
            exact hR (.ref x) H' (s9.trans s9') fun H8' b8 => ⟨x, rfl, sd, nd, lay.but ((s9.trans s9') _ _ hacc) b8⟩
        · intro H7 xs s7 hL hlen hpr
          obtain ⟨ps, rfl, eps, hps⟩ := refs_of (Pr := fun p (b : Addr × List (List Str)) H => ∃ sd nd, LayAt C H p sd nd (srtCs cs) r b.2) rs xs hlen hpr
          have s57 := s6.trans s7
          refine k D (ps.map fun p => (p.1, p.2.2)) H7 ((LamX.ExtN.of s04).trans (eN.trans (LamX.ExtN.of s57))) (T5.ext s57) ⟨by rw [hL, List.map_map]; rfl, fun b hb => ?_⟩ ?_
          · obtain ⟨p', hp', rfl⟩ := List.mem_map.mp hb
            exact hps p' hp'
          · rw [← ew, ← eps, List.map_map, List.map_map]
            rfl
end
end Vf

set_option maxRecDepth 100000
set_option maxHeartbeats 4000000
namespace Vf
open PySem PySem.Spec PyProof.Rows L2
theorem perm_bind {α β : Type} {f g : α → List β} : ∀ {l : List α}, (∀ a ∈ l, (f a).Perm (g a)) → (l.flatMap f).Perm (l.flatMap g)
  | [], _ => .refl _
  | a :: l, h => by
    rw [List.flatMap_cons, List.flatMap_cons]
    exact (h a List.mem_cons_self).append (perm_bind fun b hb => h b (List.mem_cons_of_mem _ hb))
section
variable {fit : List Str → Bool}
theorem every_fuel {n m : Nat} {ns : List Str} (asc : ns.Pairwise ltS) (h1 : ns.length < n) (h2 : ns.length < m) : (everyF fit n ns).Perm (everyF fit m ns) := by
  obtain ⟨a1, a2⟩ := every_all (fit := fit) n ns h1 asc
  obtain ⟨b1, b2⟩ := every_all (fit := fit) m ns h2 asc
  exact (List.perm_ext_iff_of_nodup a1 b1).mpr fun way => (a2 way).trans (b2 way).symm
/-- what comes of an item of the worklist -/
def pend (fit : List Str → Bool) (x : List (List Str) × List Str) : List (List (List Str)) := (everyF fit (x.2.length + 1) x.2).map (x.1 ++ ·)
def kid (fit : List Str → Bool) (lines : List (List Str)) (a : Str) (r one : List Str) : Option (List (List Str) × List Str) := if fit (a :: one) then some (lines ++ [a :: one], rem (a :: r) (a :: one)) else none
theorem pend_nil (lines : List (List Str)) : pend fit (lines, []) = [lines] := by
  unfold pend
  show ([[]] : List (List (List Str))).map (lines ++ ·) = [lines]
  simp
theorem sub_rem {a : Str} {r one : List Str} : (rem (a :: r) (a :: one)).Sublist r := by
  unfold rem
  rw [List.filter_cons_of_neg (by simp)]
  exact List.filter_sublist
theorem pend_cons {lines : List (List Str)} {a : Str} {r : List Str} (asc : (a :: r).Pairwise ltS) : (pend fit (lines, a :: r)).Perm (((subs r).filterMap (kid fit lines a r)).flatMap (pend fit)) := by
  have e1 : pend fit (lines, a :: r) = (subs r).flatMap fun one => if fit (a :: one) then ((everyF fit (r.length + 1) (rem (a :: r) (a :: one))).map fun w => (a :: one) :: w).map (lines ++ ·) else [] := by
    unfold pend
    show ((subs r).flatMap fun one => if fit (a :: one) then (everyF fit (r.length + 1) (rem (a :: r) (a :: one))).map fun w => (a :: one) :: w else []).map (lines ++ ·) = _
    rw [List.map_flatMap]
    congr 1
    funext one
    split <;> simp
  have e2 : ((subs r).filterMap (kid fit lines a r)).flatMap (pend fit) = (subs r).flatMap fun one => if fit (a :: one) then pend fit (lines ++ [a :: one], rem (a :: r) (a :: one)) else [] := by
    induction subs r with
    | nil => rfl
    | cons one l ih =>
      rw [List.flatMap_cons, ← ih]
      unfold kid
      by_cases h : fit (a :: one) = true
      · simp [h]
      · simp [h]
  rw [e1, e2]
  refine perm_bind fun one _ => ?_
  split
  · unfold pend
    have lr := rem_len (a := a) (rest := r) (one := one)
    have sr := sub_rem (a := a) (r := r) (one := one)
    have p := every_fuel (fit := fit) (n := r.length + 1) (m := (rem (a :: r) (a :: one)).length + 1) ((List.pairwise_cons.mp asc).2.sublist sr) (by omega) (by omega)
    rw [List.map_map]
    refine (p.map _).trans (List.Perm.of_eq ?_)
    congr 1
    funext w
    simp
  · exact .refl _
/-- how long it takes -/
def tree : Nat → Nat
  | 0 => 1
  | n + 1 => 1 + 2 ^ n * tree n
theorem tree_le : ∀ {n m : Nat}, n ≤ m → tree n ≤ tree m := by
  intro n m h
  induction h with
  | refl => exact Nat.le_refl _
  | step h ih =>
    rename_i m
    show tree n ≤ 1 + 2 ^ m * tree m
    have : tree m ≤ 2 ^ m * tree m := Nat.le_mul_of_pos_left _ (Nat.two_pow_pos m)
    omega
theorem tree_pos (n : Nat) : 1 ≤ tree n := tree_le (n := 0) (Nat.zero_le _)
def cost (xs : List (List (List Str) × List Str)) : Nat := (xs.map fun x => tree x.2.length).sum
theorem cost_app (xs ys : List (List (List Str) × List Str)) : cost (xs ++ ys) = cost xs + cost ys := by
  unfold cost
  rw [List.map_append, List.sum_append]
theorem cost_len : ∀ xs : List (List (List Str) × List Str), xs.length ≤ cost xs
  | [] => Nat.le_refl _
  | x :: xs => by
    have h1 := cost_len xs
    have h2 := tree_pos x.2.length
    unfold cost at h1 ⊢
    rw [List.map_cons, List.sum_cons, List.length_cons]
    omega
theorem kids_cost {lines : List (List Str)} {a : Str} {r : List Str} : ∀ l : List (List Str), cost (l.filterMap (kid fit lines a r)) ≤ l.length * tree r.length
  | [] => Nat.zero_le _
  | one :: l => by
    have ih := kids_cost (lines := lines) (a := a) (r := r) l
    rw [List.filterMap_cons, List.length_cons, Nat.succ_mul]
    unfold kid
    split
    · rename_i h
      rw [show (fun one => if fit (a :: one) = true then some (lines ++ [a :: one], rem (a :: r) (a :: one)) else none) = kid fit lines a r from rfl]
      omega
    · rename_i x h
      rw [show (fun one => if fit (a :: one) = true then some (lines ++ [a :: one], rem (a :: r) (a :: one)) else none) = kid fit lines a r from rfl]
      split at h
      · cases h
        have t := tree_le (rem_len (a := a) (rest := r) (one := one))
        unfold cost at ih ⊢
        rw [List.map_cons, List.sum_cons]
        show tree (rem (a :: r) (a :: one)).length + _ ≤ _
        omega
      · cases h
theorem step_cost {lines : List (List Str)} {a : Str} {r : List Str} : cost ((subs r).filterMap (kid fit lines a r)) < tree (r.length + 1) := by
  have h := kids_cost (fit := fit) (lines := lines) (a := a) (r := r) (subs r)
  rw [subs_len] at h
  show _ < 1 + 2 ^ r.length * tree r.length
  omega
end
end Vf

set_option maxRecDepth 100000
set_option maxHeartbeats 16000000
namespace Vf
open PySem PySem.Spec PyProof.Rows L2
section
variable {P : Program} {w : World} {K : PySem.W.Frag} {mg : Str → Option Value} {base : Heap}
theorem t_every {f : Addr} {fd : FuncData} {cdv : Value} {A : Around} {outer : List Env} {s : Shared} {H : Hp} {E : XK} (hr : Room 1 (A.deeper (envOfC "_law_every" (defScope s_law_every) s.heap.objs.size f cdv))) (T : Txt0 K mg) (GO : OkF P w K mg base CX0 "_law_order" p_law_order 1 sp_law_order) :
    ∃ t, PSs (cxOf CX0 P w K mg base n_law_every "_law_every" (defScope s_law_every) f cdv A outer s H E).nox (defBody s_law_every) t := by
  refine ⟨_, pss_cons (ps_par (i := 2) (j := 3) rfl sc_law_every.nd rfl rfl (by decide) rfl rfl (pa_cons (pe_callB (call_sortedD rfl) (by rfl) T.sorted (by decide +kernel) (pa_cons (pv 0) pa_nil)) (pa_cons (pe_lst pa_nil) pa_nil)) (by rfl))
    (pss_cons (ps_set (i := 4) sc_law_every.nd rfl (Or.inl rfl) (pe_lst (pa_cons (pe_tup (pa_cons (pe_lst pa_nil) (pa_cons (pv 2) pa_nil))) pa_nil)))
    (pss_cons (ps_while PassesOwn.never (pt_cmpR (op_neD hr.units) (pv 4) (pe_lst pa_nil) (nomark _))
      (pss_cons (ps_asg (pe_bm0 PySem.F.plainAttrs_list PySem.F.slot_list_pop PySem.F.type_list_pop mt_pop (pv 4)) (pg_tup (by rfl) (pgs_cons (pg_name (i := 5) sc_law_every.nd rfl (Or.inl rfl)) (pgs_cons (pg_name (i := 6) sc_law_every.nd rfl (Or.inl rfl)) pgs_nil))))
      (pss_one (ps_if (pt_cmpR (op_eqD hr.units) (pv 6) (pe_lst pa_nil) (nomark _))
        (pss_one (ps_expr (pe_bm PySem.F.plainAttrs_list PySem.F.slot_list_append PySem.F.type_list_append mt_append (pv 3) (pa_cons (pe_fn GO hr rfl pass0 (pa_cons (pv 5) pa_nil)) pa_nil))))
        (pss_cons (ps_set (i := 7) sc_law_every.nd rfl (Or.inl rfl) (pe_lst (pa_cons (pe_lst pa_nil) pa_nil)))
        (pss_cons (ps_for PassesOwn.never rfl (pi_list (pe_slice sl_list (pv 6) (po_some pe_int) po_none)) (pg_name (i := 8) sc_law_every.nd rfl (Or.inr rfl))
          (pss_one (ps_set (i := 7) sc_law_every.nd rfl (Or.inl rfl) (pe_op op_cat (pv 7) (pe_lc (own := [("one", 9)]) (g := gName 9) (tt := tYes) rfl sc_law_every.nd (pi_list (pv 7)) (blkOk_by (N := n_law_every) (sc := defScope s_law_every) (by decide +kernel))
            (fun _ _ _ _ _ => pg_name (i := 9) sc_law_every.nd rfl (Or.inl rfl)) (fun _ _ _ _ _ => pts_nil) (fun _ _ _ _ _ => pe_op op_cat (pv 9) (pe_lst (pa_cons (pv 8) pa_nil))))))))
        (pss_one (ps_for PassesOwn.never rfl (pi_list (pv 7)) (pg_name (i := 9) sc_law_every.nd rfl (Or.inl rfl))
          (pss_cons (ps_set (i := 10) sc_law_every.nd rfl (Or.inr rfl) (pe_op op_cat (pe_slice sl_list (pv 6) po_none (po_some pe_int)) (pv 9)))
          (pss_one (ps_if (pt_cmpR op_le (pe_callB (cr_sum rfl) (by rfl) T.sum (by decide +kernel) (pa_cons (pe_lc (own := [("name", 8)]) (g := gName 8) (tt := tYes) rfl sc_law_every.nd (pi_list (pv 10)) (blkOk_by (N := n_law_every) (sc := defScope s_law_every) (by decide +kernel))
              (fun _ _ _ _ _ => pg_name (i := 8) sc_law_every.nd rfl (Or.inl rfl)) (fun _ _ _ _ _ => pts_nil) (fun _ _ _ _ _ => pe_dget (hu_of hr) (pv 0) (pv 8) (fun _ _ => rfl))) pa_nil)) (pv 1) (nomark _))
            (pss_cons (ps_setLc (i := 11) (own := [("name", 8)]) (g := gName 8) rfl sc_law_every.nd rfl rfl (sw_true rfl rfl rfl (by decide +kernel)) (pi_list (pv 6)) (blkOk_by (N := n_law_every) (sc := defScope s_law_every) (by decide +kernel))
              (fun _ _ _ _ _ => pg_name (i := 8) sc_law_every.nd rfl (Or.inl rfl)) (fun _ _ _ _ _ => pts_one (pt_cmpR (r := rIn K true) op_notIn_seq (pv 8) (pv 10) (by rfl))) (fun _ _ _ _ _ => pv 8))
            (pss_one (ps_expr (pe_bm PySem.F.plainAttrs_list PySem.F.slot_list_append PySem.F.type_list_append mt_append (pv 4) (pa_cons (pe_tup (pa_cons (pe_op op_cat (pv 5) (pe_lst (pa_cons (pv 10) pa_nil))) (pa_cons (pv 11) pa_nil))) pa_nil))))) pss_nil)))))))))))
    (pss_one (ps_ret (pe_callB (cr_sortedD hr) (by rfl) T.sorted (by decide +kernel) (pa_cons (pe_lc (own := [("lines", 5)]) (g := gName 5) (tt := tYes) rfl sc_law_every.nd (pi_list (pv 3)) (blkOk_by (N := n_law_every) (sc := defScope s_law_every) (by decide +kernel))
        (fun _ _ _ _ _ => pg_name (i := 5) sc_law_every.nd rfl (Or.inl rfl)) (fun _ _ _ _ _ => pts_nil) (fun _ _ _ _ _ => pe_tup (pa_cons (pe_callB (cr_len (K := K) rfl) (by rfl) T.len PySem.boot_len (pa_cons (pv 5) pa_nil)) (pa_cons (pv 5) pa_nil)))) pa_nil))))))⟩
end
end Vf

set_option maxRecDepth 100000
set_option maxHeartbeats 16000000
namespace Vf
open PySem PySem.Spec PyProof.Rows L2
abbrev Itm := List (List Str) × List Str
def lsD (ws : List Str) : PyData := .list (ws.map PyData.str)
def itD (it : Itm) : PyData := .tuple [.list (it.1.map lsD), lsD it.2]
theorem plain_ls : ∀ {ls : List (List Str)}, (∀ ws ∈ ls, ∀ z ∈ ws, PyData.strOk z = true) → plainAll (ls.map lsD) = true
  | [], _ => rfl
  | ws :: ls, h => by
    simp only [List.map_cons, plainAll, Bool.and_eq_true]
    exact ⟨by simp only [lsD, plainD, plain_strs (h ws List.mem_cons_self)], plain_ls fun y hy => h y (List.mem_cons_of_mem _ hy)⟩
theorem depth_ls : ∀ ls : List (List Str), PyData.depthAll (ls.map lsD) ≤ 1
  | [] => by simp [PyData.depthAll]
  | x :: ls => by
    have := depth_ls ls
    simp only [List.map_cons, PyData.depthAll, lsD, PyData.depth, depth_strs]
    omega
/-- an item, in words -/
structure ItemOk (ns : List Str) (it : Itm) : Prop where
  rest : it.2.Sublist ns
  few : it.1.length + it.2.length ≤ ns.length
  lines : ∀ ws ∈ it.1, ws.length ≤ ns.length ∧ ∀ z ∈ ws, z ∈ ns
theorem plain_items {ns : List Str} (ok : ∀ z ∈ ns, PyData.strOk z = true) : ∀ {its : List Itm}, (∀ i ∈ its, ItemOk ns i) → plainAll (its.map itD) = true
  | [], _ => rfl
  | i :: its, h => by
    have hi := h i List.mem_cons_self
    simp only [List.map_cons, plainAll, Bool.and_eq_true]
    refine ⟨?_, plain_items ok fun y hy => h y (List.mem_cons_of_mem _ hy)⟩
    have h1 := plain_ls (ls := i.1) fun ws hw z hz => ok z ((hi.lines ws hw).2 z hz)
    have h2 := plain_strs (ws := i.2) fun z hz => ok z (hi.rest.subset hz)
    simp only [itD, lsD, plainD, plainAll, h1, h2, Bool.and_self]
theorem depth_items : ∀ its : List Itm, PyData.depthAll (its.map itD) ≤ 3
  | [] => by simp [PyData.depthAll]
  | i :: its => by
    have h1 := depth_items its
    have h2 := depth_ls i.1
    simp only [List.map_cons, PyData.depthAll, itD, lsD, PyData.depth, depth_strs]
    omega
theorem shaped_items {ns : List Str} (ok : ∀ z ∈ ns, PyData.strOk z = true) {its : List Itm} (h : ∀ i ∈ its, ItemOk ns i) : SeqAt.shaped (.list (its.map itD)) = true :=
  shaped_of (by simp only [plainD, plain_items ok h]) (by have := depth_items its; simp only [PyData.depth]; omega)
theorem shaped_nil : SeqAt.shaped (.list []) = true := by decide +kernel
theorem eqv_nil {ds : List PyData} : PyData.eqv (.list ds) (.list []) = decide (ds = []) := by
  cases ds <;> simp [PyData.eqv, PyData.eqvAll]
/-- all but two -/
abbrev Off (a b x : Addr) : Prop := x ≠ a ∧ x ≠ b
theorem Off.new {H : Hp} {a b x : Addr} {u v : HO} (ha : H a = some u) (hb : H b = some v) (hx : H x = none) : Off a b x :=
  ⟨(ne_of_none ha hx).symm, (ne_of_none hb hx).symm⟩
theorem Off.tup {H : Hp} {a b x : Addr} {us vs xs : List V} (ha : H a = some (.lst us)) (hb : H b = some (.lst vs)) (hx : H x = some (.tup xs)) : Off a b x :=
  ⟨ne_of hx ha (by intro z; cases z), ne_of hx hb (by intro z; cases z)⟩
/-- an item, in the heap -/
structure ItemAt (wq fl : Addr) (H : Hp) (x : Addr) (it : Itm) : Prop where
  ex : ∃ (la ra : Addr) (lps : List (Addr × List Str)), H x = some (.tup [.ref la, .ref ra]) ∧ H la = some (.lst (lps.map fun q => V.ref q.1)) ∧ Off wq fl la ∧ (∀ q ∈ lps, H q.1 = some (.lst (q.2.map V.str)) ∧ Off wq fl q.1) ∧ lps.map Prod.snd = it.1 ∧
    H ra = some (.lst (it.2.map V.str)) ∧ Off wq fl ra
theorem ItemAt.but {wq fl : Addr} {H H' : Hp} {x : Addr} {it : Itm} {us vs : List V} (h : ItemAt wq fl H x it) (hw : H wq = some (.lst us)) (hf : H fl = some (.lst vs)) (b : But2 wq fl H H') : ItemAt wq fl H' x it := by
  obtain ⟨la, ra, lps, h1, h2, h3, h4, h5, h6, h7⟩ := h
  have hx := Off.tup hw hf h1
  exact ⟨la, ra, lps, b _ _ hx.1 hx.2 h1, b _ _ h3.1 h3.2 h2, h3, fun q hq => ⟨b _ _ (h4 q hq).2.1 (h4 q hq).2.2 (h4 q hq).1, (h4 q hq).2⟩, h5, b _ _ h7.1 h7.2 h6, h7⟩
theorem ItemAt.dp {K : PySem.W.Frag} {wq fl : Addr} {H : Hp} {x : Addr} {it : Itm} (h : ItemAt wq fl H x it) : Dp K H (.ref x) (itD it) := by
  obtain ⟨la, ra, lps, h1, h2, h3, h4, h5, h6, h7⟩ := h
  have key : ∀ {lps : List (Addr × List Str)}, (∀ q ∈ lps, H q.1 = some (.lst (q.2.map V.str)) ∧ Off wq fl q.1) → DpAll K H (lps.map fun q => V.ref q.1) ((lps.map Prod.snd).map lsD) := by
    intro lps
    induction lps with
    | nil => exact fun _ => .nil
    | cons q lps ih => exact fun h => .cons (.lst (SqL.of (h q List.mem_cons_self).1) (dp_strs _)) (ih fun q' hq => h q' (List.mem_cons_of_mem _ hq))
  unfold itD
  rw [← h5]
  exact .tup (SqT.of h1) (.cons (.lst (SqL.of h2) (key h4)) (.cons (.lst (SqL.of h6) (dp_strs _)) .nil))
/-- the worklist -/
structure WaitAt (wq fl : Addr) (H : Hp) (its : List (Addr × Itm)) : Prop where
  at_ : H wq = some (.lst (its.map fun i => V.ref i.1))
  each : ∀ i ∈ its, ItemAt wq fl H i.1 i.2
theorem WaitAt.dp {K : PySem.W.Frag} {wq fl : Addr} {H : Hp} {its : List (Addr × Itm)} (h : WaitAt wq fl H its) : Dp K H (.ref wq) (.list ((its.map Prod.snd).map itD)) := by
  have key : ∀ {its : List (Addr × Itm)}, (∀ i ∈ its, ItemAt wq fl H i.1 i.2) → DpAll K H (its.map fun i => V.ref i.1) ((its.map Prod.snd).map itD) := by
    intro its
    induction its with
    | nil => exact fun _ => .nil
    | cons i its ih => exact fun h => .cons (h i List.mem_cons_self).dp (ih fun q' hq => h q' (List.mem_cons_of_mem _ hq))
  exact .lst (SqL.of h.at_) (key h.each)
/-- what is found -/
structure FoundAt (H : Hp) (fl : Addr) (fs : List (Addr × List (Addr × List Str))) : Prop where
  at_ : H fl = some (.lst (fs.map fun e => V.ref e.1))
  each : ∀ e ∈ fs, LinesAt H e.1 e.2
theorem LinesAt.but2 {wq fl : Addr} {H H' : Hp} {t : Addr} {qs : List (Addr × List Str)} {us vs : List V} (h : LinesAt H t qs) (hw : H wq = some (.lst us)) (hf : H fl = some (.lst vs)) (b : But2 wq fl H H') : LinesAt H' t qs := by
  have ht := Off.tup hw hf h.1
  refine ⟨b _ _ ht.1 ht.2 h.1, fun q hq => ?_⟩
  have hq' := Off.tup hw hf (h.2 q hq)
  exact b _ _ hq'.1 hq'.2 (h.2 q hq)
theorem but2_wq {wq fl : Addr} {H H' : Hp} {o : HO} (s : Same H H') : But2 wq fl H (upd H' wq o) := fun b u h1 _ e => by
  rw [upd_ne h1]
  exact s b u e
theorem but2_fl {wq fl : Addr} {H H' : Hp} {o : HO} (s : Same H H') : But2 wq fl H (upd H' fl o) := fun b u _ h2 e => by
  rw [upd_ne h2]
  exact s b u e
/-- the two lists, in the course of the loop -/
structure BothAt (wq fl : Addr) (H : Hp) (its : List (Addr × Itm)) (fs : List (Addr × List (Addr × List Str))) : Prop where
  ne : wq ≠ fl
  wait : WaitAt wq fl H its
  found : FoundAt H fl fs
theorem BothAt.same {wq fl : Addr} {H H' : Hp} {its : List (Addr × Itm)} {fs : List (Addr × List (Addr × List Str))} (h : BothAt wq fl H its fs) (s : Same H H') : BothAt wq fl H' its fs :=
  ⟨h.ne, ⟨s _ _ h.wait.at_, fun i hi => (h.wait.each i hi).but h.wait.at_ h.found.at_ (Vf.Same.two s)⟩, ⟨s _ _ h.found.at_, fun e he => (h.found.each e he).same s⟩⟩
/-- an item more, or the last one less -/
theorem BothAt.setW {wq fl : Addr} {H : Hp} {its its' : List (Addr × Itm)} {fs : List (Addr × List (Addr × List Str))} (h : BothAt wq fl H its fs) (h' : ∀ i ∈ its', ItemAt wq fl H i.1 i.2) : BothAt wq fl (upd H wq (.lst (its'.map fun i => V.ref i.1))) its' fs := by
  have b : But2 wq fl H (upd H wq (.lst (its'.map fun i => V.ref i.1))) := but2_wq (Same.refl _)
  exact ⟨h.ne, ⟨upd_same, fun i hi => (h' i hi).but h.wait.at_ h.found.at_ b⟩, ⟨by rw [upd_ne h.ne.symm]; exact h.found.at_, fun e he => (h.found.each e he).but2 h.wait.at_ h.found.at_ b⟩⟩
theorem BothAt.setF {wq fl : Addr} {H : Hp} {its : List (Addr × Itm)} {fs fs' : List (Addr × List (Addr × List Str))} (h : BothAt wq fl H its fs) (h' : ∀ e ∈ fs', LinesAt H e.1 e.2) : BothAt wq fl (upd H fl (.lst (fs'.map fun e => V.ref e.1))) its fs' := by
  have b : But2 wq fl H (upd H fl (.lst (fs'.map fun e => V.ref e.1))) := but2_fl (Same.refl _)
  exact ⟨h.ne, ⟨by rw [upd_ne h.ne]; exact h.wait.at_, fun i hi => (h.wait.each i hi).but h.wait.at_ h.found.at_ b⟩, ⟨upd_same, fun e he => (h' e he).but2 h.wait.at_ h.found.at_ b⟩⟩
/-- lists of names, all apart from the two -/
structure SomeAt (wq fl : Addr) (H : Hp) (sm : Addr) (ops : List (Addr × List Str)) : Prop where
  at_ : H sm = some (.lst (ops.map fun q => V.ref q.1))
  off : Off wq fl sm
  each : ∀ q ∈ ops, H q.1 = some (.lst (q.2.map V.str)) ∧ Off wq fl q.1
theorem SomeAt.but {wq fl : Addr} {H H' : Hp} {sm : Addr} {ops : List (Addr × List Str)} (h : SomeAt wq fl H sm ops) (b : But2 wq fl H H') : SomeAt wq fl H' sm ops :=
  ⟨b _ _ h.off.1 h.off.2 h.at_, h.off, fun q hq => ⟨b _ _ (h.each q hq).2.1 (h.each q hq).2.2 (h.each q hq).1, (h.each q hq).2⟩⟩
theorem ord_part {fit : List Str → Bool} {ns : List Str} {way : List (List Str)} (p : Part fit ns way) : sortL (way.map srt) = way := by rw [(part_ord p).1, (part_ord p).2]
end Vf

set_option maxRecDepth 100000
set_option maxHeartbeats 16000000
namespace Vf
open PySem PySem.Spec PyProof.Rows L2
theorem inV_str (z : Str) : ∀ ws : List Str, inV (.str z) (ws.map V.str) = decide (z ∈ ws)
  | [] => rfl
  | y :: ws => by
    have ih := inV_str z ws
    unfold inV at ih ⊢
    rw [List.map_cons, List.any_cons, ih]
    show (eqV (V.str y) (V.str z) || decide (z ∈ ws)) = _
    by_cases e : y = z
    · subst e
      rw [decide_eq_true (p := y ∈ y :: ws) List.mem_cons_self]
      have : eqV (V.str y) (V.str y) = true := by simp [eqV]
      rw [this, Bool.true_or]
    · have : eqV (V.str y) (V.str z) = false := by simp [eqV, e]
      rw [this, Bool.false_or]
      exact decide_eq_decide.mpr ⟨List.mem_cons_of_mem _, fun h => (List.mem_cons.mp h).resolve_left fun q => e q.symm⟩
theorem flat_strs2 : ∀ ws : List Str, (ws.map V.str).all flatV = true
  | [] => rfl
  | _ :: ws => by rw [List.map_cons, List.all_cons, flat_strs2 ws]; rfl

/-- what _law_every tells: pairs of a number and lines -/
structure DueAt (H : Hp) (l : Addr) (es : List (Addr × Addr × List (Addr × List Str))) : Prop where
  at_ : H l = some (.lst (es.map fun e => V.ref e.1))
  each : ∀ e ∈ es, H e.1 = some (.tup [.int (e.2.2.length : Nat), .ref e.2.1]) ∧ LinesAt H e.2.1 e.2.2
theorem ws_of {K : PySem.W.Frag} {l : Addr} (ws : List Str) : Walk (Itl K l) ws.length (fun H => SqL K H l (ws.map V.str)) (YAt (ws.map V.str)) := (walk_list (K := K) (a := l) (xs := ws.map V.str) |> fun z => by rw [List.length_map] at z; exact z)
theorem wr_of {α : Type} {K : PySem.W.Frag} {l : Addr} (ps : List (Addr × α)) : Walk (Itl K l) ps.length (fun H => SqL K H l (ps.map fun p => V.ref p.1)) (YAt (ps.map fun p => V.ref p.1)) := (walk_list (K := K) (a := l) (xs := ps.map fun p => V.ref p.1) |> fun z => by rw [List.length_map] at z; exact z)
theorem at_ref {α : Type} {ps : List (Addr × α)} {j : Nat} {q : Addr × α} {x : V} (hj : ps[j]? = some q) (hx : (ps.map fun p => V.ref p.1)[j]? = some x) : x = V.ref q.1 := by
  rw [List.getElem?_map, hj] at hx
  exact (Option.some.inj hx).symm
theorem at_txt {ws : List Str} {j : Nat} {z : Str} {x : V} (hj : ws[j]? = some z) (hx : (ws.map V.str)[j]? = some x) : x = V.str z := by
  rw [List.getElem?_map, hj] at hx
  exact (Option.some.inj hx).symm
section
variable {P : Program} {w : World} {K : PySem.W.Frag} {mg : Str → Option Value} {base : Heap}
def sp_law_every : Sp := fun vs H Q _ => ∃ (d : Addr) (cs : List (Str × Nat)) (r : Nat), vs = [.ref d, .int (r : Int)] ∧ H d = some (.dK (cellKv cs)) ∧ GoodCs cs ∧
  ∀ l es H', Same H H' → DueAt H' l es → es.map (fun e => e.2.2.map Prod.snd) = allW cs r → Q (.ref l) H'
theorem ok_law_every {f : Addr} {fd : FuncData} (F : Fun K "_law_every" "_law_every" s_law_every f fd) (T : Txt0 K mg) (GO : OkF P w K mg base CX0 "_law_order" p_law_order 1 sp_law_order) : FnOk P w K mg base CX0 2 f fd p_law_every sp_law_every := by
  refine F.ok sc_law_every (fun vs H Q E h => ?_) (fun cdv A outer s H vs Q E hr h => ?_)
  · obtain ⟨d, cs, r, rfl, _⟩ := h
    rfl
  · obtain ⟨d, cs, r, rfl, hd, g, k⟩ := h
    refine ⟨_, pss_cons (ps_par (i := 2) (j := 3) rfl sc_law_every.nd rfl rfl (by decide) rfl rfl (pa_cons (pe_callB (call_sortedD rfl) (by rfl) T.sorted (by decide +kernel) (pa_cons (pv 0) pa_nil)) (pa_cons (pe_lst pa_nil) pa_nil)) (by rfl))
      (pss_cons (ps_set (i := 4) sc_law_every.nd rfl (Or.inl rfl) (pe_lst (pa_cons (pe_tup (pa_cons (pe_lst pa_nil) (pa_cons (pv 2) pa_nil))) pa_nil)))
      (pss_cons (ps_while PassesOwn.never (pt_cmpR (op_neD hr.units) (pv 4) (pe_lst pa_nil) (nomark _))
        (pss_cons (ps_asg (pe_bm0 PySem.F.plainAttrs_list PySem.F.slot_list_pop PySem.F.type_list_pop mt_pop (pv 4)) (pg_tup (by rfl) (pgs_cons (pg_name (i := 5) sc_law_every.nd rfl (Or.inl rfl)) (pgs_cons (pg_name (i := 6) sc_law_every.nd rfl (Or.inl rfl)) pgs_nil))))
        (pss_one (ps_if (pt_cmpR (op_eqD hr.units) (pv 6) (pe_lst pa_nil) (nomark _))
          (pss_one (ps_expr (pe_bm PySem.F.plainAttrs_list PySem.F.slot_list_append PySem.F.type_list_append mt_append (pv 3) (pa_cons (pe_fn GO hr rfl pass0 (pa_cons (pv 5) pa_nil)) pa_nil))))
          (pss_cons (ps_set (i := 7) sc_law_every.nd rfl (Or.inl rfl) (pe_lst (pa_cons (pe_lst pa_nil) pa_nil)))
          (pss_cons (ps_for PassesOwn.never rfl (pi_list (pe_slice sl_list (pv 6) (po_some pe_int) po_none)) (pg_name (i := 8) sc_law_every.nd rfl (Or.inr rfl))
            (pss_one (ps_set (i := 7) sc_law_every.nd rfl (Or.inl rfl) (pe_op op_cat (pv 7) (pe_lc (own := [("one", 9)]) (g := gName 9) (tt := tYes) rfl sc_law_every.nd (pi_list (pv 7)) (blkOk_by (N := n_law_every) (sc := defScope s_law_every) (by decide +kernel))
              (fun _ _ _ _ _ => pg_name (i := 9) sc_law_every.nd rfl (Or.inl rfl)) (fun _ _ _ _ _ => pts_nil) (fun _ _ _ _ _ => pe_op op_cat (pv 9) (pe_lst (pa_cons (pv 8) pa_nil))))))))
          (pss_one (ps_for PassesOwn.never rfl (pi_list (pv 7)) (pg_name (i := 9) sc_law_every.nd rfl (Or.inl rfl))
            (pss_cons (ps_set (i := 10) sc_law_every.nd rfl (Or.inr rfl) (pe_op op_cat (pe_slice sl_list (pv 6) po_none (po_some pe_int)) (pv 9)))
            (pss_one (ps_if (pt_cmpR op_le (pe_callB (cr_sum rfl) (by rfl) T.sum (by decide +kernel) (pa_cons (pe_lc (own := [("name", 8)]) (g := gName 8) (tt := tYes) rfl sc_law_every.nd (pi_list (pv 10)) (blkOk_by (N := n_law_every) (sc := defScope s_law_every) (by decide +kernel))
                (fun _ _ _ _ _ => pg_name (i := 8) sc_law_every.nd rfl (Or.inl rfl)) (fun _ _ _ _ _ => pts_nil) (fun _ _ _ _ _ => pe_dget (hu_of hr) (pv 0) (pv 8) (fun _ _ => rfl))) pa_nil)) (pv 1) (nomark _))
              (pss_cons (ps_setLc (i := 11) (own := [("name", 8)]) (g := gName 8) rfl sc_law_every.nd rfl rfl (sw_true rfl rfl rfl (by decide +kernel)) (pi_list (pv 6)) (blkOk_by (N := n_law_every) (sc := defScope s_law_every) (by decide +kernel))
                (fun _ _ _ _ _ => pg_name (i := 8) sc_law_every.nd rfl (Or.inl rfl)) (fun _ _ _ _ _ => pts_one (pt_cmpR (r := rIn K true) op_notIn_seq (pv 8) (pv 10) (by rfl))) (fun _ _ _ _ _ => pv 8))
              (pss_one (ps_expr (pe_bm PySem.F.plainAttrs_list PySem.F.slot_list_append PySem.F.type_list_append mt_append (pv 4) (pa_cons (pe_tup (pa_cons (pe_op op_cat (pv 5) (pe_lst (pa_cons (pv 10) pa_nil))) (pa_cons (pv 11) pa_nil))) pa_nil))))) pss_nil)))))))))))
      (pss_one (ps_ret (pe_callB (cr_sortedD hr) (by rfl) T.sorted (by decide +kernel) (pa_cons (pe_lc (own := [("lines", 5)]) (g := gName 5) (tt := tYes) rfl sc_law_every.nd (pi_list (pv 3)) (blkOk_by (N := n_law_every) (sc := defScope s_law_every) (by decide +kernel))
          (fun _ _ _ _ _ => pg_name (i := 5) sc_law_every.nd rfl (Or.inl rfl)) (fun _ _ _ _ _ => pts_nil) (fun _ _ _ _ _ => pe_tup (pa_cons (pe_callB (cr_len (K := K) rfl) (by rfl) T.len PySem.boot_len (pa_cons (pv 5) pa_nil)) (pa_cons (pv 5) pa_nil)))) pa_nil)))))), ?_⟩
    have few := g.few
    have fit := fit_mono cs r
    have znd := srt_perm (cs.map Prod.fst)
    have zl : (srt (cs.map Prod.fst)).length = cs.length := by rw [znd.length_eq, List.length_map]
    have asc := srt_asc g.nd
    have nok : ∀ z ∈ srt (cs.map Prod.fst), PyData.strOk z = true := fun z hz => by
      obtain ⟨c, hc, rfl⟩ := List.mem_map.mp (znd.mem_iff.mp hz)
      exact ok_name (g.name c hc)
    refine ⟨_, rfl, d, cellKv cs, cs.map Prod.fst, rfl, .inl hd, cell_keys cs, by rw [List.length_map]; omega, fun zs q1 hz1 hz2 hq1 => ?_⟩
    obtain rfl : zs = srt (cs.map Prod.fst) := srt_of hz1 hz2
    generalize hns : srt (cs.map Prod.fst) = ns at *
    have nl6 : ns.length ≤ 6 := by omega
    have hnin : ∀ z ∈ ns, z ∈ cs.map Prod.fst := fun z hz => znd.mem_iff.mp hz
    have ways := every_all (fit := fitB cs r) (ns.length + 1) ns (Nat.lt_succ_self _) asc
    refine ⟨Nat.zero_le _, fun fl hfl => ⟨_, _, rfl, ?_⟩⟩
    refine ⟨Nat.zero_le _, fun la0 hla0 => ⟨_, rfl, (by show 2 ≤ sizeLine; decide), fun x0 hx0 => ⟨(by show 1 ≤ sizeLine; decide), fun wq hwq => ?_⟩⟩⟩
    have s1 := same_new (o := .lst (ns.map V.str)) hq1
    have s2 := s1.trans (same_new (o := .lst []) hfl)
    have q12 : (upd (upd H q1 (.lst (ns.map V.str))) fl (.lst [])) q1 = some (.lst (ns.map V.str)) := same_new hfl _ _ upd_same
    have f12 : (upd (upd H q1 (.lst (ns.map V.str))) fl (.lst [])) fl = some (.lst []) := upd_same
    have nfl : H fl = none := s1.free hfl
    generalize (upd (upd H q1 (.lst (ns.map V.str))) fl (.lst [])) = H2 at s2 q12 f12 hla0 hx0 hwq ⊢
    have s23 := (same_new (o := .lst []) hla0).trans ((same_new (o := .tup [.ref la0, .ref q1]) hx0).trans (same_new (o := .lst [.ref x0]) hwq))
    have nwq : H wq = none := (s2.trans ((same_new (o := .lst []) hla0).trans (same_new (o := .tup [.ref la0, .ref q1]) hx0))).free hwq
    have la3 : (upd (upd (upd H2 la0 (.lst [])) x0 (.tup [.ref la0, .ref q1])) wq (.lst [.ref x0])) la0 = some (.lst []) := same_new hwq _ _ (same_new hx0 _ _ upd_same)
    have x3 : (upd (upd (upd H2 la0 (.lst [])) x0 (.tup [.ref la0, .ref q1])) wq (.lst [.ref x0])) x0 = some (.tup [.ref la0, .ref q1]) := same_new hwq _ _ upd_same
    have w3 : (upd (upd (upd H2 la0 (.lst [])) x0 (.tup [.ref la0, .ref q1])) wq (.lst [.ref x0])) wq = some (.lst [.ref x0]) := upd_same
    have ola : Off wq fl la0 := ⟨ne_of_none (same_new hx0 _ _ upd_same) hwq, (ne_of_none f12 hla0).symm⟩
    have oq1 : Off wq fl q1 := ⟨ne_of_none (same_new hx0 _ _ (same_new hla0 _ _ q12)) hwq, ne_of_none upd_same hfl⟩
    have nwf : wq ≠ fl := (ne_of_none (same_new hx0 _ _ (same_new hla0 _ _ f12)) hwq).symm
    generalize (upd (upd (upd H2 la0 (.lst [])) x0 (.tup [.ref la0, .ref q1])) wq (.lst [.ref x0])) = H3 at s23 la3 x3 w3 ⊢
    have s3 := s2.trans s23
    have b3 : BothAt wq fl H3 [(x0, ([], ns))] [] := ⟨nwf, ⟨w3, fun i hi => by
      rw [List.mem_singleton.mp hi]
      exact ⟨la0, q1, [], x3, la3, ola, (fun q hq => nomatch hq), rfl, s23 _ _ q12, oq1⟩⟩, ⟨s23 _ _ f12, fun e he => nomatch he⟩⟩
    have back : ∀ {H'}, But2 wq fl H3 H' → Same H H' := fun {H'} b x u e => b x u (ne_of_none e nwq) (ne_of_none e nfl) (s3 _ _ e)
    refine ⟨fun m σ H' => ∃ v5 v6 v7 v8 v9 v10 v11 its fs, σ = [some (.ref d), some (.int (r : Int)), some (.ref q1), some (.ref fl), some (.ref wq), v5, v6, v7, v8, v9, v10, v11] ∧ But2 wq fl H3 H' ∧ BothAt wq fl H' its fs ∧ (∀ i ∈ its, ItemOk ns i.2) ∧
      (fs.map (fun e => e.2.map Prod.snd) ++ (its.map Prod.snd).flatMap (pend (fitB cs r))).Perm (everyF (fitB cs r) (ns.length + 1) ns) ∧ cost (its.map Prod.snd) = m ∧ m ≤ tree 6,
      ⟨_, _, _, _, _, _, _, _, [(x0, ([], ns))], [], rfl, Vf.Same.two (Same.refl _), b3, fun i hi => ?_, ?_, rfl, ?_⟩, ?_⟩
    · rw [List.mem_singleton.mp hi]
      exact ⟨List.Sublist.refl _, by simp, fun ws hw => nomatch hw⟩
    · simp [pend]
    · have := tree_le nl6
      simpa [cost] using this
    rintro m σ H4 ⟨v5, v6, v7, v8, v9, v10, v11, its, fs, rfl, b4, at4, ok4, pm4, rfl, mx⟩
    refine ⟨_, rfl, Nat.zero_le _, fun e1 he1 => ?_⟩
    have at5 := at4.same (same_new (o := .lst []) he1)
    have b5 : But2 wq fl H3 (upd H4 e1 (.lst [])) := b4.trans (Vf.Same.two (same_new he1))
    refine ⟨.list ((its.map Prod.snd).map itD), .list [], at5.wait.dp, .lst (SqL.of upd_same) .nil, shaped_items nok fun i hi => ?_, shaped_nil, _, rfl, ?_⟩
    · obtain ⟨i', hi', rfl⟩ := List.mem_map.mp hi
      exact ok4 i' hi'
    generalize (upd H4 e1 (.lst [])) = H5 at at5 b5 ⊢
    rw [eqv_nil]
    rcases List.eq_nil_or_concat its with rfl | ⟨its0, ⟨x, it⟩, eits⟩
    · refine iteF ?_
      have pm : (fs.map (fun e => e.2.map Prod.snd)).Perm (everyF (fitB cs r) (ns.length + 1) ns) := by
        have := pm4
        simpa using this
      have lfs : fs.length ≤ 720 := by
        have h1 := pm.length_eq
        rw [List.length_map] at h1
        have h2 := (ways_every fit asc (n := ns.length + 1) (Nat.lt_succ_self ns.length)).length_eq
        have h3 := ways_len fit _ ns rfl asc
        have h4 := fac_le (n := ns.length) (m := 6) nl6
        have h5 : fac 6 = 720 := by decide
        omega
      refine ⟨_, rfl, fl, rfl, ⟨_, SqL.of at5.found.at_⟩, fun D hD => lc_ad fs (wr_of fs) hD (fun e v H => ∃ t, v = .ref t ∧ H t = some (.tup [.int ((e.2.map fun q => V.ref q.1).length : Nat), .ref e.1])) (by omega) (fun H6 s6 => SqL.of (s6 _ _ at5.found.at_)) ?_ ?_⟩
      · rintro j e x H6 H7 hj s6 ⟨acc, hacc⟩ ⟨rfl, hx⟩ R hR
        obtain rfl := at_ref hj hx
        have lt := (at5.found.each e (List.mem_of_getElem? hj)).same s6
        refine ⟨rfl, _, rfl, e.1, _, rfl, .inr (SqT.of lt.1), _, rfl, (by show 2 ≤ sizeLine; decide), fun t ht => ?_⟩
        exact hR (.ref t) _ (same_new ht) fun H8 b8 => ⟨t, rfl, b8 t _ (ne_of_none hacc ht).symm upd_same⟩
      · intro H6 xs s6 hL hlen hpr
        obtain ⟨es, rfl, ees, hes⟩ := refs_of (Pr := fun t (e : Addr × List (Addr × List Str)) H => H t = some (.tup [.int ((e.2.map fun q => V.ref q.1).length : Nat), .ref e.1])) fs xs hlen hpr
        have les : es.length = fs.length := by rw [← ees, List.length_map]
        have lt : ∀ e ∈ es, LinesAt H6 e.2.1 e.2.2 := fun e he => (at5.found.each e.2 (by rw [← ees]; exact List.mem_map_of_mem he)).same s6
        refine ⟨D, es.map (fun e => (V.ref e.1, keyW (e.2.2.map Prod.snd))), rfl, SqL.of (by rw [hL, List.map_map]; rfl), by rw [List.length_map]; omega, fun b hb => ?_, fun y hy z hz => ?_, .inl fun y hy => ?_, fun p hp => ?_⟩
        · obtain ⟨e, he, rfl⟩ := List.mem_map.mp hb
          have h1 := hes e he
          have h2 := depth_keyW (e.2.2.map Prod.snd)
          refine ⟨?_, by show (keyW (e.2.2.map Prod.snd)).depth ≤ 64; omega⟩
          refine .tup (SqT.of h1) (.cons ?_ (.cons (lt e he).dp .nil))
          rw [List.length_map, List.length_map]
          exact .int _
        · rw [List.map_map] at hy hz
          obtain ⟨e, _, rfl⟩ := List.mem_map.mp hy
          obtain ⟨e', _, rfl⟩ := List.mem_map.mp hz
          exact alike_keyW _ _
        · rw [List.map_map] at hy
          obtain ⟨e, _, rfl⟩ := List.mem_map.mp hy
          exact ⟨_, _, rfl⟩
        · have em : ((es.map (fun e => (V.ref e.1, keyW (e.2.2.map Prod.snd)))).mergeSort (PySem.W.dataLe false Prod.snd)) = (es.mergeSort fun a b => PySem.W.dataLe false keyW (a.2.2.map Prod.snd) (b.2.2.map Prod.snd)).map (fun e => (V.ref e.1, keyW (e.2.2.map Prod.snd))) :=
            (List.map_mergeSort (f := fun e : Addr × Addr × List (Addr × List Str) => (V.ref e.1, keyW (e.2.2.map Prod.snd))) fun _ _ _ _ => rfl).symm
          have ew : (es.mergeSort fun a b => PySem.W.dataLe false keyW (a.2.2.map Prod.snd) (b.2.2.map Prod.snd)).map (fun e => e.2.2.map Prod.snd) = sortW (es.map fun e => e.2.2.map Prod.snd) := by
            unfold sortW
            exact List.map_mergeSort (f := fun e : Addr × Addr × List (Addr × List Str) => e.2.2.map Prod.snd) fun _ _ _ _ => rfl
          have ep := List.mergeSort_perm es fun a b => PySem.W.dataLe false keyW (a.2.2.map Prod.snd) (b.2.2.map Prod.snd)
          rw [em, List.map_map]
          generalize (es.mergeSort fun a b => PySem.W.dataLe false keyW (a.2.2.map Prod.snd) (b.2.2.map Prod.snd)) = rs at ew ep ⊢
          have sp := same_new (o := .lst (rs.map (Prod.fst ∘ fun e => (V.ref e.1, keyW (e.2.2.map Prod.snd))))) hp
          refine k p rs _ ((back b5).trans (s6.trans sp)) ⟨upd_same, fun e he => ?_⟩ ?_
          · have he' := ep.mem_iff.mp he
            have h1 := hes e he'
            rw [List.length_map] at h1
            exact ⟨sp _ _ h1, (lt e he').same sp⟩
          · rw [ew]
            have ef : es.map (fun e => e.2.2.map Prod.snd) = fs.map (fun e => e.2.map Prod.snd) := by
              rw [← ees, List.map_map]
              rfl
            rw [ef]
            unfold allW
            rw [hns]
            exact sortW_same (pm.trans (ways_every fit asc (Nat.lt_succ_self _)).symm)
    · obtain rfl : its = its0 ++ [(x, it)] := eits.trans List.concat_eq_append
      rw [decide_eq_false (p := (List.map Prod.snd (its0 ++ [(x, it)])).map itD = []) (by simp)]
      have ok0 : ∀ i ∈ its0, ItemOk ns i.2 := fun i hi => ok4 i (List.mem_append_left _ hi)
      have okx : ItemOk ns it := ok4 (x, it) (List.mem_append_right _ (List.mem_singleton.mpr rfl))
      have atx := at5.wait.each (x, it) (List.mem_append_right _ (List.mem_singleton.mpr rfl))
      rw [List.map_append, cost_app] at mx ⊢
      refine iteT ⟨_, fun σ' H' h => h, ?_⟩
      refine ⟨_, rfl, .inl ⟨rfl, _, SqL.of at5.wait.at_⟩, wq, _, .ref x, rfl, rfl, at5.wait.at_, by simp, ?_⟩
      have edrop : ((its0 ++ [(x, it)]).map fun i => V.ref i.1).dropLast = its0.map fun i => V.ref i.1 := by
        rw [List.map_append]
        exact List.dropLast_concat
      rw [edrop]
      have at6 := at5.setW (its' := its0) fun i hi => at5.wait.each i (List.mem_append_left _ hi)
      have b56 : But2 wq fl H5 (upd H5 wq (.lst (its0.map fun i => V.ref i.1))) := but2_wq (Same.refl _)
      have atx6 := atx.but at5.wait.at_ at5.found.at_ b56
      have b6 := b5.trans b56
      generalize (upd H5 wq (.lst (its0.map fun i => V.ref i.1))) = H6 at at6 atx6 b6 ⊢
      obtain ⟨la, ra, lps, hx, hla, ola, hlps, elps, hra, ora⟩ := id atx6.ex
      refine ⟨x, _, rfl, SqT.of hx, rfl, _, _, rfl, _, _, rfl, rfl, ?_⟩
      refine ⟨_, rfl, Nat.zero_le _, fun e2 he2 => ?_⟩
      have s67 := same_new (o := .lst []) he2
      have at7 := at6.same s67
      have atx7 := atx6.but at6.wait.at_ at6.found.at_ (Vf.Same.two s67)
      have b7 := b6.trans (Vf.Same.two s67)
      have h2e : (upd H6 e2 (.lst [])) e2 = some (.lst []) := upd_same
      have hla7 := s67 _ _ hla
      have hlps7 : ∀ q ∈ lps, (upd H6 e2 (.lst [])) q.1 = some (.lst (q.2.map V.str)) ∧ Off wq fl q.1 := fun q hq => ⟨s67 _ _ (hlps q hq).1, (hlps q hq).2⟩
      have hra7 := s67 _ _ hra
      refine ⟨.list (it.2.map PyData.str), .list [], .lst (SqL.of hra7) (dp_strs _), .lst (SqL.of h2e) .nil, shaped_strs fun z hz => nok z (okx.rest.subset hz), shaped_nil, _, rfl, ?_⟩
      generalize (upd H6 e2 (.lst [])) = H7 at at7 atx7 b7 hla7 hlps7 hra7 ⊢
      rw [eqv_nil]
      obtain ⟨lines, rest⟩ := it
      cases rest with
      | nil =>
        refine iteT ?_
        have hin : lines ∈ everyF (fitB cs r) (ns.length + 1) ns := pm4.mem_iff.mp (List.mem_append_right _ (List.mem_flatMap.mpr ⟨(lines, []), List.mem_map.mpr ⟨(x, (lines, [])), List.mem_append_right _ (List.mem_singleton.mpr rfl), rfl⟩, by rw [pend_nil]; exact List.mem_singleton.mpr rfl⟩))
        have pl := (ways.2 lines).mp hin
        obtain ⟨pl1, pl2⟩ := part_len pl
        replace elps : lps.map Prod.snd = lines := elps
        have lfs : fs.length ≤ 720 := by
          have h1 := pm4.length_eq
          rw [List.length_append, List.length_map] at h1
          have h2 := (ways_every fit asc (n := ns.length + 1) (Nat.lt_succ_self ns.length)).length_eq
          have h3 := ways_len fit _ ns rfl asc
          have h4 := fac_le (n := ns.length) (m := 6) nl6
          have h5 : fac 6 = 720 := by decide
          omega
        refine ⟨_, rfl, .inl ⟨rfl, _, SqL.of at7.found.at_⟩, _, rfl, la, lps, rfl, hla7, fun q hq => ?_, ?_, fun t rs H8 s8 lt ers => ?_⟩
        · have hm : q.2 ∈ lines := by rw [← elps]; exact List.mem_map_of_mem hq
          have := pl2 _ hm
          exact ⟨(hlps7 q hq).1, pl.ne _ hm, by omega⟩
        · rw [← elps, List.length_map] at pl1
          omega
        have at8 := at7.same s8
        refine ⟨fl, _, _, rfl, rfl, at8.found.at_, by rw [List.length_map, sizeLine_eq]; omega, ?_⟩
        have eref : (fs.map fun e => V.ref e.1) ++ [V.ref t] = (fs ++ [(t, rs)]).map fun e => V.ref e.1 := by rw [List.map_append]; rfl
        rw [eref]
        have at9 := at8.setF (fs' := fs ++ [(t, rs)]) fun e he => by
          rcases List.mem_append.mp he with z | z
          · exact at8.found.each e z
          · rw [List.mem_singleton.mp z]
            exact lt
        have b9 : But2 wq fl H3 (upd H8 fl (.lst ((fs ++ [(t, rs)]).map fun e => V.ref e.1))) := b7.trans (but2_fl s8)
        refine ⟨cost (its0.map Prod.snd), Nat.lt_add_of_pos_right (Nat.lt_of_lt_of_le Nat.zero_lt_one (Nat.le_trans (tree_pos 0) (by simp [cost]))), _, _, _, _, _, _, _, its0, fs ++ [(t, rs)], rfl, b9, at9, ok0, ?_, rfl, Nat.le_trans (Nat.le_add_right _ _) mx⟩
        have ell : rs.map Prod.snd = lines := by
          rw [ers]
          unfold linesOf
          rw [show (lps.map fun p => srt p.2) = lines.map srt from by rw [← elps, List.map_map]; rfl]
          exact ord_part pl
        have pm := pm4
        rw [List.map_append, List.flatMap_append] at pm
        rw [show ([(x, ((lines, []) : Itm))].map Prod.snd).flatMap (pend (fitB cs r)) = [lines] from by show pend (fitB cs r) (lines, []) ++ [] = [lines]; rw [pend_nil]; rfl] at pm
        rw [List.map_append, List.append_assoc]
        refine (List.Perm.append_left _ ?_).trans pm
        show ([rs.map Prod.snd] ++ _).Perm _
        rw [ell]
        exact List.perm_append_comm
      | cons a rr =>
        refine iteF ?_
        have ascR : (a :: rr).Pairwise ltS := asc.sublist okx.rest
        have lrr : rr.length + 1 ≤ 6 := by
          have := okx.rest.length_le
          rw [List.length_cons] at this
          omega
        have hin : ∀ z ∈ a :: rr, z ∈ cs.map Prod.fst := fun z hz => hnin z (okx.rest.subset hz)
        refine ⟨Nat.zero_le _, fun e3 he3 => ⟨(by show 1 ≤ sizeLine; decide), fun sm hsm => ?_⟩⟩
        have s78 := (same_new (o := .lst []) he3).trans (same_new (o := .lst [.ref e3]) hsm)
        have so8 : SomeAt wq fl (upd (upd H7 e3 (.lst [])) sm (.lst [.ref e3])) sm [(e3, [])] := ⟨upd_same, Off.new (same_new he3 _ _ at7.wait.at_) (same_new he3 _ _ at7.found.at_) hsm, fun q hq => by
          rw [List.mem_singleton.mp hq]
          exact ⟨same_new hsm _ _ upd_same, Off.new at7.wait.at_ at7.found.at_ he3⟩⟩
        have at8 := at7.same s78
        have b8 := b7.trans (Vf.Same.two s78)
        have hla8 := s78 _ _ hla7
        have hlps8 : ∀ q ∈ lps, (upd (upd H7 e3 (.lst [])) sm (.lst [.ref e3])) q.1 = some (.lst (q.2.map V.str)) ∧ Off wq fl q.1 := fun q hq => ⟨s78 _ _ (hlps7 q hq).1, (hlps7 q hq).2⟩
        have hra8 := s78 _ _ hra7
        generalize (upd (upd H7 e3 (.lst [])) sm (.lst [.ref e3])) = H8 at so8 at8 b8 hla8 hlps8 hra8 ⊢
        refine ⟨_, rfl, _, rfl, ra, _, rfl, SqL.of hra8, fun p hp => ?_⟩
        have ecut : cutV ((a :: rr).map V.str) (some 1) none = rr.map V.str := by
          unfold cutV
          rw [show (some (1 : Int)) = some ((1 : Nat) : Int) from rfl, HT.sIx_nat, HT.sIx_none]
          have : min 1 ((a :: rr).map V.str).length = 1 := by rw [List.length_map, List.length_cons]; omega
          rw [this]
          show (rr.map V.str).take _ = _
          exact List.take_of_length_le (by simp)
        rw [ecut]
        have s89 := same_new (o := .lst (rr.map V.str)) hp
        have p9 : (upd H8 p (.lst (rr.map V.str))) p = some (.lst (rr.map V.str)) := upd_same
        have at9 := at8.same s89
        have so9 := so8.but (Vf.Same.two s89)
        have b9 := b8.trans (Vf.Same.two s89)
        have hla9 := s89 _ _ hla8
        have hlps9 : ∀ q ∈ lps, (upd H8 p (.lst (rr.map V.str))) q.1 = some (.lst (q.2.map V.str)) ∧ Off wq fl q.1 := fun q hq => ⟨s89 _ _ (hlps8 q hq).1, (hlps8 q hq).2⟩
        have hra9 := s89 _ _ hra8
        generalize (upd H8 p (.lst (rr.map V.str))) = H9 at p9 at9 so9 b9 hla9 hlps9 hra9 ⊢
        have pow5 : ∀ i, (subs (rr.take i)).length ≤ 32 := fun i => by
          rw [subs_len, List.length_take]
          exact Nat.le_trans (Nat.pow_le_pow_right (by decide) (by omega)) (by decide : 2 ^ 5 ≤ 32)
        refine ⟨p, rfl, ⟨_, SqL.of p9⟩, for_it (ws_of rr) (fun i σ H' => ∃ v8 v9 v10 v11 sm ops, σ = [some (.ref d), some (.int (r : Int)), some (.ref q1), some (.ref fl), some (.ref wq), some (.ref la), some (.ref ra), some (.ref sm), v8, v9, v10, v11] ∧ Same H9 H' ∧ SomeAt wq fl H' sm ops ∧ ops.map Prod.snd = subs (rr.take i))
          ⟨_, _, _, _, sm, [(e3, [])], rfl, Same.refl _, so9, rfl⟩ (fun i σ H' _ ⟨_, _, _, _, _, _, _, s, _⟩ => SqL.of (s _ _ p9)) ?_ ?_⟩
        · rintro i y σ H10 H11 hi ⟨v8, v9, v10, v11, sm, ops, rfl, s10, so10, e10⟩ ⟨rfl, hy⟩
          have hz : rr[i]? = some rr[i] := List.getElem?_eq_getElem hi
          generalize rr[i] = z at hz
          obtain rfl := at_txt hz hy
          have lo : ops.length ≤ 32 := by
            have := pow5 i
            rw [← e10, List.length_map] at this
            exact this
          have lz : ∀ q ∈ ops, q.2.length ≤ 6 := fun q hq => by
            have h1 : q.2 ∈ subs (rr.take i) := by rw [← e10]; exact List.mem_map_of_mem hq
            have h2 := ((subs_all _ (rr.take i) rfl).2 q.2).mp h1
            have h3 := h2.length_le
            rw [List.length_take] at h3
            omega
          refine ⟨_, rfl, _, rfl, sm, rfl, ⟨_, SqL.of so10.at_⟩, fun D hD => lc_ad ops (wr_of ops) hD (fun q v H => ∃ t, v = .ref t ∧ (H t = some (.lst ((q.2 ++ [z]).map V.str)) ∧ Off wq fl t)) (by omega) (fun H12 s12 => SqL.of (s12 _ _ so10.at_)) ?_ ?_⟩
          · rintro j q y2 H12 H13 hq s12 ⟨acc, hacc⟩ ⟨rfl, hx2⟩ R hR
            obtain rfl := at_ref hq hx2
            have hqm := List.mem_of_getElem? hq
            have lq := lz q hqm
            have at12 := (at9.same s10).same s12
            refine ⟨rfl, _, rfl, _, rfl, (by show 1 ≤ sizeLine; decide), fun n hn => ⟨q.1, n, _, _, rfl, rfl, same_new hn _ _ (s12 _ _ (so10.each q hqm).1), upd_same, by rw [List.length_map, sizeLine_eq]; show q.2.length + 1 ≤ _; omega, fun t ht => ?_⟩⟩
            have sn := same_new (o := .lst [.str z]) hn
            refine hR (.ref t) _ (sn.trans (same_new ht)) fun H14 b14 => ⟨t, rfl, ?_, Off.new (sn _ _ at12.wait.at_) (sn _ _ at12.found.at_) ht⟩
            rw [b14 t _ (ne_of_none (sn _ _ hacc) ht).symm upd_same, List.map_append]
            rfl
          · intro H12 xs s12 hL hlen hpr
            obtain ⟨ops2, rfl, eops, hops⟩ := refs_of (Pr := fun t (q : Addr × List Str) H => H t = some (.lst ((q.2 ++ [z]).map V.str)) ∧ Off wq fl t) ops xs hlen hpr
            have lo2 : ops2.length = ops.length := by rw [← eops, List.length_map]
            have at12 := (at9.same s10).same s12
            refine ⟨sm, D, _, _, rfl, rfl, s12 _ _ so10.at_, hL, by rw [List.length_map, List.length_map, sizeLine_eq]; omega, fun p2 hp2 => ?_⟩
            have sp := same_new (o := .lst ((ops.map fun q => V.ref q.1) ++ (ops2.map fun q => V.ref q.1))) hp2
            refine ⟨_, _, _, _, p2, ops ++ ops2.map (fun e => (e.1, e.2.2 ++ [z])), rfl, s10.trans (s12.trans sp), ⟨by rw [upd_same, List.map_append, List.map_map]; rfl, Off.new at12.wait.at_ at12.found.at_ hp2, fun q hq => ?_⟩, ?_⟩
            · rcases List.mem_append.mp hq with h | h
              · exact ⟨(s12.trans sp) _ _ (so10.each q h).1, (so10.each q h).2⟩
              · obtain ⟨e, he, rfl⟩ := List.mem_map.mp h
                exact ⟨sp _ _ (hops e he).1, (hops e he).2⟩
            · have tk : rr.take (i + 1) = rr.take i ++ [z] := by rw [List.take_add_one, hz]; rfl
              rw [List.map_append, e10, tk, subs_snoc, ← e10, ← eops, List.map_map, List.map_map, List.map_map]
              rfl
        · rintro σ H10 ⟨v8, v9, v10, v11, sm, ops, rfl, s10, so10, e10⟩
          rw [List.take_length] at e10
          have lo : ops.length ≤ 32 := by
            have := pow5 rr.length
            rw [List.take_length, ← e10, List.length_map] at this
            exact this
          have at10 := at9.same s10
          have b10 := b9.trans (Vf.Same.two s10)
          have hra10 := s10 _ _ hra9
          have hla10 := s10 _ _ hla9
          have hlps10 : ∀ q ∈ lps, H10 q.1 = some (.lst (q.2.map V.str)) ∧ Off wq fl q.1 := fun q hq => ⟨s10 _ _ (hlps9 q hq).1, (hlps9 q hq).2⟩
          have subok : ∀ q ∈ ops, q.2.Sublist rr := fun q hq => ((subs_all _ rr rfl).2 q.2).mp (by rw [← e10]; exact List.mem_map_of_mem hq)
          refine ⟨_, rfl, sm, rfl, ⟨_, SqL.of so10.at_⟩, for_it (wr_of ops) (fun j σ H' => ∃ v8 v9 v10 v11 its2, σ = [some (.ref d), some (.int (r : Int)), some (.ref q1), some (.ref fl), some (.ref wq), some (.ref la), some (.ref ra), some (.ref sm), v8, v9, v10, v11] ∧ But2 wq fl H10 H' ∧ BothAt wq fl H' its2 fs ∧ its2.map Prod.snd = its0.map Prod.snd ++ ((subs rr).take j).filterMap (kid (fitB cs r) lines a rr))
            ⟨_, _, _, _, its0, rfl, Vf.Same.two (Same.refl _), at10, by simp⟩ (fun j σ H' _ ⟨_, _, _, _, _, _, b, _⟩ => SqL.of (b _ _ so10.off.1 so10.off.2 so10.at_)) ?_ ?_⟩
          · rintro j y σ H11' H11 hj ⟨v8, v9, v10, v11, its2, rfl, b11, at11, e11⟩ ⟨rfl, hy⟩
            have hq : ops[j]? = some ops[j] := List.getElem?_eq_getElem hj
            generalize ops[j] = q at hq
            have hqm := List.mem_of_getElem? hq
            obtain rfl := at_ref hq hy
            have hone : (subs rr)[j]? = some q.2 := by rw [← e10, List.getElem?_map, hq]; rfl
            have tkj : ((subs rr).take (j + 1)).filterMap (kid (fitB cs r) lines a rr) = ((subs rr).take j).filterMap (kid (fitB cs r) lines a rr) ++ (kid (fitB cs r) lines a rr q.2).toList := by
              rw [List.take_add_one, hone, List.filterMap_append]
              cases e : kid (fitB cs r) lines a rr q.2 <;> simp [e]
            have lsub := (subok q hqm).length_le
            have hq11 := b11 _ _ (so10.each q hqm).2.1 (so10.each q hqm).2.2 (so10.each q hqm).1
            have hra11 := b11 _ _ ora.1 ora.2 hra10
            have ecut2 : cutV ((a :: rr).map V.str) none (some 1) = [V.str a] := by
              unfold cutV
              rw [show (some (1 : Int)) = some ((1 : Nat) : Int) from rfl, HT.sIx_nat, HT.sIx_none]
              have : min 1 ((a :: rr).map V.str).length = 1 := by rw [List.length_map, List.length_cons]; omega
              rw [this]
              rfl
            refine ⟨_, rfl, _, rfl, ra, _, rfl, SqL.of hra11, fun p1 hp1 => ?_⟩
            rw [ecut2]
            refine ⟨_, rfl, p1, q.1, _, _, rfl, rfl, upd_same, same_new hp1 _ _ hq11, by rw [List.length_map, sizeLine_eq]; show 1 + q.2.length ≤ _; omega, fun ln hln => ?_⟩
            have s12 := (same_new (o := .lst [.str a]) hp1).trans (same_new (o := .lst ([.str a] ++ q.2.map V.str)) hln)
            have ln12 : (upd (upd H11 p1 (.lst [.str a])) ln (.lst ([.str a] ++ q.2.map V.str))) ln = some (.lst ((a :: q.2).map V.str)) := upd_same
            have oln : Off wq fl ln := Off.new (same_new hp1 _ _ at11.wait.at_) (same_new hp1 _ _ at11.found.at_) hln
            generalize (upd (upd H11 p1 (.lst [.str a])) ln (.lst ([.str a] ++ q.2.map V.str))) = H12 at s12 ln12 ⊢
            have inline : ∀ z ∈ a :: q.2, z ∈ cs.map Prod.fst := fun z hz => by
              rcases List.mem_cons.mp hz with rfl | h
              · exact hin _ List.mem_cons_self
              · exact hin _ (List.mem_cons_of_mem _ ((subok q hqm).subset h))
            have hdd : ∀ {H'}, Same H12 H' → H' d = some (.dK (cellKv cs)) := fun {H'} s => s _ _ (s12 _ _ (back (b10.trans b11) _ _ hd))
            refine ⟨_, rfl, ln, rfl, ⟨_, SqL.of ln12⟩, fun D hD => lc_mp (a :: q.2) (ws_of (a :: q.2)) hD (fun z => .int (sizeOfD cs z : Nat)) (by rw [List.length_cons]; omega) (fun H5 s5 => SqL.of (s5 _ _ ln12)) ?_ ?_⟩
            · rintro i z x2 H13 H14 hi s13 ⟨rfl, hx2⟩ R hR
              obtain rfl := at_txt hi hx2
              have gg := DGet.k (k := Sum.inr z) (hdd s13)
              rw [valV_cells, size_some (inline z (List.mem_of_getElem? hi))] at gg
              exact ⟨rfl, _, rfl, _, rfl, d, _, rfl, gg, hR _ (Same.refl _)⟩
            · intro H13 s13 hLL
              refine ⟨D, (a :: q.2).map fun z => ((sizeOfD cs z : Nat) : Int), rfl, SqL.of (by rw [hLL, List.map_map]; rfl), _, rfl, _, _, rfl, rfl, _, rfl, ?_⟩
              have e : ∀ l : List Str, (l.map fun z => ((sizeOfD cs z : Nat) : Int)).sum = ((total cs l : Nat) : Int) := fun l => by
                unfold total
                induction l with
                | nil => rfl
                | cons z r ih =>
                  rw [List.map_cons, List.map_cons, List.sum_cons, List.sum_cons, ih]
                  omega
              rw [e]
              have s1113 := s12.trans s13
              have at13 := at11.same s1113
              by_cases ht : total cs (a :: q.2) ≤ r
              · rw [decide_eq_true (p := ((total cs (a :: q.2) : Nat) : Int) ≤ (r : Int)) (by omega)]
                have hra13 := s1113 _ _ hra11
                have ln13 := s13 _ _ ln12
                refine iteT ⟨_, rfl, ra, rfl, ⟨_, SqL.of hra13⟩, fun D2 hD2 => lc_fm (a :: rr) (ws_of (a :: rr)) hD2 (fun z => if decide (z ∉ a :: q.2) = true then some (.str z) else none) (by rw [List.length_cons]; omega) (fun H5 s5 => SqL.of (s5 _ _ hra13)) ?_ ?_⟩
                · rintro i z x2 H14 H15 hi s14 ⟨rfl, hx2⟩ R hR
                  obtain rfl := at_txt hi hx2
                  refine ⟨rfl, _, rfl, _, rfl, ln, _, rfl, .inl (SqL.of (s14 _ _ ln13)), rfl, flat_strs2 _, _, rfl, ?_⟩
                  show if (if true = true then !inV (.str z) ((a :: q.2).map V.str) else _) = true then _ else _
                  rw [if_pos rfl, inV_str]
                  by_cases hz : z ∈ a :: q.2
                  · rw [decide_eq_true hz]
                    rw [if_neg (by simp [hz])] at hR
                    exact iteF (hR _ (Same.refl _))
                  · rw [decide_eq_false hz]
                    rw [if_pos (by simp [hz])] at hR
                    exact iteT ⟨_, rfl, hR _ (Same.refl _)⟩
                · intro H14 s14 hL2
                  have erem : (a :: rr).filterMap (fun z => if decide (z ∉ a :: q.2) = true then some (V.str z) else none) = (rem (a :: rr) (a :: q.2)).map V.str := by
                    unfold rem
                    generalize a :: rr = l
                    induction l with
                    | nil => rfl
                    | cons z l ih =>
                      rw [List.filterMap_cons, List.filter_cons]
                      by_cases hz : z ∈ a :: q.2
                      · rw [decide_eq_false (p := z ∉ a :: q.2) (fun h => h hz)]
                        exact ih
                      · rw [decide_eq_true hz]
                        simp only [if_true, List.map_cons]
                        rw [ih]
                  rw [erem] at hL2
                  have at14 := at13.same s14
                  have oD2 : Off wq fl D2 := Off.new at13.wait.at_ at13.found.at_ hD2
                  have b14 : But2 wq fl H10 H14 := b11.trans (Vf.Same.two (s1113.trans s14))
                  have hla14 := b14 _ _ ola.1 ola.2 hla10
                  have hlps14 : ∀ q ∈ lps, H14 q.1 = some (.lst (q.2.map V.str)) ∧ Off wq fl q.1 := fun q hq => ⟨b14 _ _ (hlps10 q hq).2.1 (hlps10 q hq).2.2 (hlps10 q hq).1, (hlps10 q hq).2⟩
                  have ln14 := s14 _ _ ln13
                  have ll : lps.length ≤ 6 := by
                    have h1 := okx.few
                    have h2 : lps.map Prod.snd = lines := elps
                    have h3 : lines.length + (a :: rr).length ≤ ns.length := h1
                    rw [← h2, List.length_map] at h3
                    omega
                  refine ⟨_, rfl, .inl ⟨rfl, _, SqL.of at14.wait.at_⟩, _, rfl, _, rfl, (by show 1 ≤ sizeLine; decide), fun n1 hn1 => ⟨la, n1, _, _, rfl, rfl, same_new hn1 _ _ hla14, upd_same, by rw [List.length_map, sizeLine_eq]; show lps.length + 1 ≤ _; omega, fun la2 hla2 => ⟨_, rfl, (by show 2 ≤ sizeLine; decide), fun x2 hx2 => ?_⟩⟩⟩
                  have s15 := (same_new (o := .lst [.ref ln]) hn1).trans ((same_new (o := .lst ((lps.map fun q => V.ref q.1) ++ [.ref ln])) hla2).trans (same_new (o := .tup [.ref la2, .ref D2]) hx2))
                  have la15 : (upd (upd (upd H14 n1 (.lst [.ref ln])) la2 (.lst ((lps.map fun q => V.ref q.1) ++ [.ref ln]))) x2 (.tup [.ref la2, .ref D2])) la2 = some (.lst ((lps ++ [(ln, a :: q.2)]).map fun q => V.ref q.1)) := by
                    rw [same_new hx2 _ _ upd_same, List.map_append]
                    rfl
                  have x15 : (upd (upd (upd H14 n1 (.lst [.ref ln])) la2 (.lst ((lps.map fun q => V.ref q.1) ++ [.ref ln]))) x2 (.tup [.ref la2, .ref D2])) x2 = some (.tup [.ref la2, .ref D2]) := upd_same
                  have ola2 : Off wq fl la2 := Off.new (same_new hn1 _ _ at14.wait.at_) (same_new hn1 _ _ at14.found.at_) hla2
                  generalize (upd (upd (upd H14 n1 (.lst [.ref ln])) la2 (.lst ((lps.map fun q => V.ref q.1) ++ [.ref ln]))) x2 (.tup [.ref la2, .ref D2])) = H15 at s15 la15 x15 ⊢
                  have at15 := at14.same s15
                  have lits : its2.length ≤ 86561 + 32 := by
                    have h1 := congrArg List.length e11
                    rw [List.length_map, List.length_append, List.length_map] at h1
                    have h2 := List.length_filterMap_le (kid (fitB cs r) lines a rr) ((subs rr).take j)
                    have h3 := pow5 rr.length
                    rw [List.take_length] at h3
                    have h4 := cost_len (its0.map Prod.snd)
                    rw [List.length_map] at h4
                    have h5 : tree 6 = 86561 := by decide
                    rw [List.length_take] at h2
                    omega
                  refine ⟨wq, _, _, rfl, rfl, at15.wait.at_, by rw [List.length_map, sizeLine_eq]; omega, ?_⟩
                  have eref : (its2.map fun i => V.ref i.1) ++ [V.ref x2] = (its2 ++ [(x2, ((lines ++ [a :: q.2], rem (a :: rr) (a :: q.2)) : Itm))]).map fun i => V.ref i.1 := by rw [List.map_append]; rfl
                  rw [eref]
                  have at16 := at15.setW (its' := its2 ++ [(x2, ((lines ++ [a :: q.2], rem (a :: rr) (a :: q.2)) : Itm))]) fun i hi => by
                    rcases List.mem_append.mp hi with z | z
                    · exact at15.wait.each i z
                    · rw [List.mem_singleton.mp z]
                      refine ⟨la2, D2, lps ++ [(ln, a :: q.2)], x15, la15, ola2, fun q' hq' => ?_, by rw [List.map_append]; exact congrArg (· ++ [a :: q.2]) elps, s15 _ _ hL2, oD2⟩
                      rcases List.mem_append.mp hq' with h | h
                      · exact ⟨s15 _ _ (hlps14 q' h).1, (hlps14 q' h).2⟩
                      · rw [List.mem_singleton.mp h]
                        exact ⟨s15 _ _ ln14, oln⟩
                  refine ⟨_, _, _, _, its2 ++ [(x2, ((lines ++ [a :: q.2], rem (a :: rr) (a :: q.2)) : Itm))], rfl, b14.trans (but2_wq s15), at16, ?_⟩
                  rw [List.map_append, e11, tkj, List.append_assoc]
                  congr 2
                  unfold kid fitB
                  rw [if_pos (decide_eq_true ht)]
                  rfl
              · rw [decide_eq_false (p := ((total cs (a :: q.2) : Nat) : Int) ≤ (r : Int)) (by omega)]
                refine iteF ⟨_, _, _, _, its2, rfl, b11.trans (Vf.Same.two s1113), at13, ?_⟩
                rw [e11, tkj]
                unfold kid fitB
                rw [if_neg (c := decide (total cs (a :: q.2) ≤ r) = true) (by rw [decide_eq_false ht]; simp)]
                simp
          · rintro σ H11 ⟨v8, v9, v10, v11, its2, rfl, b11, at11, e11⟩
            rw [List.take_of_length_le (by rw [← e10, List.length_map]; exact Nat.le_refl _)] at e11
            have sc := step_cost (fit := fitB cs r) (lines := lines) (a := a) (r := rr)
            have ex : cost ([(x, ((lines, a :: rr) : Itm))].map Prod.snd) = tree (rr.length + 1) := by simp [cost]
            have e12 : cost (its2.map Prod.snd) = cost (its0.map Prod.snd) + cost ((subs rr).filterMap (kid (fitB cs r) lines a rr)) := by rw [e11, cost_app]
            rw [ex] at mx
            refine ⟨cost (its2.map Prod.snd), by rw [ex, e12]; omega, _, _, _, _, _, _, _, its2, fs, rfl, b10.trans b11, at11, fun i hi => ?_, ?_, rfl, by rw [e12]; omega⟩
            · have hm : i.2 ∈ its2.map Prod.snd := List.mem_map_of_mem hi
              rw [e11] at hm
              rcases List.mem_append.mp hm with h | h
              · obtain ⟨i', hi', e⟩ := List.mem_map.mp h
                rw [← e]
                exact ok0 i' hi'
              · obtain ⟨one, ho, hk⟩ := List.mem_filterMap.mp h
                unfold kid at hk
                split at hk
                · obtain e := Option.some.inj hk
                  rw [← e]
                  have so := ((subs_all _ rr rfl).2 one).mp ho
                  have sl := so.length_le
                  have rl := rem_len (a := a) (rest := rr) (one := one)
                  have h1 : lines.length + (rr.length + 1) ≤ ns.length := okx.few
                  have hsub := okx.rest
                  refine ⟨(sub_rem (a := a) (r := rr) (one := one)).trans ((List.sublist_cons_self a rr).trans hsub), ?_, fun ws hw => ?_⟩
                  · show (lines ++ [a :: one]).length + (rem (a :: rr) (a :: one)).length ≤ _
                    rw [List.length_append, List.length_singleton]
                    omega
                  · rcases List.mem_append.mp hw with h | h
                    · exact okx.lines ws h
                    · rw [List.mem_singleton.mp h]
                      refine ⟨by rw [List.length_cons]; omega, fun z hz => hsub.subset ?_⟩
                      rcases List.mem_cons.mp hz with rfl | h
                      · exact List.mem_cons_self
                      · exact List.mem_cons_of_mem _ (so.subset h)
                · cases hk
            · refine List.Perm.trans ?_ pm4
              refine List.Perm.append_left _ ?_
              rw [e11, List.flatMap_append, List.map_append, List.flatMap_append]
              refine List.Perm.append_left _ ?_
              show ((List.filterMap (kid (fitB cs r) lines a rr) (subs rr)).flatMap (pend (fitB cs r))).Perm (pend (fitB cs r) (lines, a :: rr) ++ [])
              rw [List.append_nil]
              exact (pend_cons ascR).symm
end
end Vf

set_option maxRecDepth 100000
set_option maxHeartbeats 4000000
namespace Vf
open PySem PySem.Spec PyProof.Rows L2
def rSortedST (K : PySem.W.Frag) : List V → Hp → VK → Prop := fun vs H Q => ∃ (a : Addr) (xs : List Str), vs = [.ref a] ∧ SqT K H a (xs.map V.str) ∧ xs.length < 64 ∧ ∀ p : Addr, H p = none → Q (.ref p) (upd H p (.lst ((srt xs).map V.str)))
theorem cr_sortedST {X : Cx} {K : PySem.W.Frag} (hK : X.K = K) : CallR X (.builtin "sorted") (rSortedST K) := by
  subst hK
  intro pins s σ H vs us Q I r h
  obtain ⟨a, xs, rfl, ha, h64, q⟩ := h
  obtain ⟨its, rv, ⟨o, ho, hc, n, hd⟩, hz⟩ := I.tuple ha
  rw [Vals.ref1 r]
  have hk1 := rv.strs
  have len : its.length = xs.length := by
    have := rv.length
    rw [List.length_map] at this
    exact this.symm
  refine Calls.call_function_entry kind_sorted plain_sorted entry_sorted (args_sorted1 _) ?_
  unfold Builtin.«sorted»
  refine wpAny_bind (m := checkCount "sorted" 1 1 _) (wpAny_pure ?_)
  refine wpAny_bind (wpAny_collect_seq a (.inr rfl) ho hc hd (fun h1 k1 => ?_) (by rw [List.size_toArray, sizeLine_eq]; omega))
  show wpAny _ _ (newList its >>= _) _ _ _
  refine wpAny_bind (wpAny_newList ?_ (by rw [len, sizeLine_eq]; omega))
  have hoL : (h1.push (seqObj "list" its.toArray 0)).get? h1.objs.size = some (seqObj "list" its.toArray 0) := Heap.get?_push_size _ rfl
  refine wpAny_bind (wpAny_holding (wpAny_call_entry slot_list_sort ⟨_, hoL, rfl⟩ entry_list_sort
    (list_sort_treeK strKind_oneLt hoL hk1.keysOf (fun v₁ v₂ rest e => keyKind_strs (by rw [← e]; exact hk1)) (by rw [len]; exact h64) fun st' hp hs => ⟨_, rfl, ?_⟩) (args_list_sort _)))
  obtain ⟨ys, g2, g3, g4⟩ := sorted_out_str hk1 hp hs
  obtain ⟨c, hc'⟩ := sortedHeap_at (vs := its) (out := (arrOf st').map (·.2)) hoL
  have ey : ys = srt xs := srt_of g3 g4
  subst ey
  have hlen : ((srt xs).map V.str).length ≤ sizeLine := by rw [List.length_map, (srt_perm xs).length_eq, sizeLine_eq]; omega
  have keep : ∀ b o, s.heap.get? b = some o → (sortedHeap (h1.push (seqObj "list" its.toArray 0)) h1.objs.size its ((arrOf st').map (·.2))).get? b = some o := fun b u e => by
    have q := k1 b u e
    have hlt := Heap.lt_size q
    rw [sortedHeap_old (Nat.ne_of_lt hlt) (by rw [size_push']; exact Nat.lt_succ_of_lt hlt)]
    exact Heap.get?_push_of_some _ q
  have hD : s.heap.get? h1.objs.size = none := by
    cases e : s.heap.get? h1.objs.size with
    | none => rfl
    | some u => exact absurd (Heap.lt_size (k1 _ _ e)) (Nat.lt_irrefl _)
  have hn : H h1.objs.size = none := by
    cases e : H h1.objs.size with
    | none => rfl
    | some u =>
      obtain ⟨ob, e2⟩ := objOk_get (I.hok _ u e)
      rw [hD] at e2
      cases e2
  obtain ⟨m, nm, _⟩ := id I.loc
  have new : ObjOk X.prog X.w (upd H h1.objs.size (.lst ((srt xs).map V.str))) (sortedHeap (h1.push (seqObj "list" its.toArray 0)) h1.objs.size its ((arrOf st').map (·.2))) h1.objs.size (.lst ((srt xs).map V.str)) :=
    ⟨hlen, ((arrOf st').map (·.2)).toList, c, vals_of_strs g2, by rw [Array.toArray_toList]; exact hc'⟩
  have J : Inv X pins σ (upd H h1.objs.size (.lst ((srt xs).map V.str))) { s with heap := sortedHeap (h1.push (seqObj "list" its.toArray 0)) h1.objs.size its ((arrOf st').map (·.2)), toks := s.toks } :=
    inv_new I nm (nm.keeps keep) (fun b o e _ => keep b o e) hD new
  exact wpAny_pure ⟨_, rfl, .ref h1.objs.size, _, J, rfl, q _ hn⟩
end Vf

set_option maxRecDepth 100000
set_option maxHeartbeats 16000000
namespace Vf
open PySem PySem.Spec PyProof.Rows L2
section
variable {P : Program} {w : World} {K : PySem.W.Frag} {mg : Str → Option Value} {base : Heap}
def sp_law_orderT : Sp := fun vs H Q _ => ∃ (l : Addr) (ps : List (Addr × List Str)), vs = [.ref l] ∧ LinesAt H l ps ∧ (∀ p ∈ ps, p.2 ≠ [] ∧ p.2.length ≤ 6) ∧ ps.length ≤ 6 ∧
  ∀ t rs H', Same H H' → LinesAt H' t rs → rs.map Prod.snd = linesOf ps → Q (.ref t) H'
theorem ok_law_orderT {f : Addr} {fd : FuncData} (F : Fun K "_law_order" "_law_order" s_law_order f fd) (T : Txt0 K mg) : FnOk P w K mg base CX0 1 f fd p_law_order sp_law_orderT := by
  refine F.ok sc_law_order (fun vs H Q E h => ?_) (fun cdv A outer s H vs Q E hr h => ?_)
  · obtain ⟨l, ps, rfl, _⟩ := h
    rfl
  · obtain ⟨l, ps, rfl, hl, hps, few, k⟩ := h
    refine ⟨_, pss_one (ps_ret (pe_callTy call_tuple_of (by rfl) T.tuple (by decide +kernel) (pa_cons (pe_callB (cr_sortedD hr) (by rfl) T.sorted (by decide +kernel) (pa_cons
          (pe_lc (own := [("line", 1)]) (g := gName 1) (tt := tYes) rfl sc_law_order.nd (pi_tup (pv 0)) (blkOk_by (N := n_law_order) (sc := defScope s_law_order) (by decide +kernel))
            (fun _ _ _ _ _ => pg_name (i := 1) sc_law_order.nd rfl (Or.inl rfl)) (fun _ _ _ _ _ => pts_nil)
            (fun _ _ _ _ _ => pe_callTy (cr_tup (K := K) rfl) (by rfl) T.tuple (by decide +kernel) (pa_cons (pe_callB (cr_sortedST (K := K) rfl) (by rfl) T.sorted (by decide +kernel) (pa_cons (pv 1) pa_nil)) pa_nil))) pa_nil)) pa_nil))), ?_⟩
    have wl : ∀ {a : Addr}, Walk (Itt K a) ps.length (fun H => SqT K H a (ps.map fun p => V.ref p.1)) (YAt (ps.map fun p => V.ref p.1)) := fun {a} => (walk_tup (K := K) (a := a) (xs := ps.map fun p => V.ref p.1) |> fun z => by rw [List.length_map] at z; exact z)
    refine ⟨_, rfl, l, rfl, ⟨_, SqT.of hl.1⟩, fun D hD => lc_ad ps wl hD (fun p v H => ∃ t, v = .ref t ∧ H t = some (.tup ((srt p.2).map V.str))) (by omega) (fun H6 s6 => SqT.of (s6 _ _ hl.1)) ?_ ?_⟩
    · rintro i a x H6 H7 ha s6 ⟨acc, hacc⟩ ⟨rfl, hx⟩ R hR
      rw [List.getElem?_map, ha] at hx
      obtain rfl : V.ref a.1 = x := Option.some.inj hx
      obtain ⟨h2, h3⟩ := hps a (List.mem_of_getElem? ha)
      have h1 := hl.2 a (List.mem_of_getElem? ha)
      refine ⟨rfl, _, rfl, a.1, a.2, rfl, SqT.of (s6 _ _ h1), by omega, fun q hq => ⟨q, _, rfl, .inl ⟨SqL.of upd_same, fun t ht => ?_⟩⟩⟩
      have sq := same_new (o := .lst ((srt a.2).map V.str)) hq
      refine hR (.ref t) _ (sq.trans (same_new ht)) fun H8 b8 => ⟨t, rfl, b8 t _ (ne_of_none (sq _ _ hacc) ht).symm upd_same⟩
    · intro H6 xs s6 hL hlen hpr
      obtain ⟨qs, rfl, eqs, hqs⟩ := qs_of (H := H6) (ps.map fun p => srt p.2) xs (by rw [hlen, List.length_map]) fun i ws v h1 h2 => by
        rw [List.getElem?_map] at h1
        cases e : ps[i]? with
        | none => rw [e] at h1; cases h1
        | some a =>
          rw [e] at h1
          obtain rfl : srt a.2 = ws := Option.some.inj h1
          exact hpr i a v e h2
      have qne : ∀ q ∈ qs, q.2 ≠ [] := fun q hq z => by
        have hm : q.2 ∈ qs.map Prod.snd := List.mem_map_of_mem hq
        rw [eqs] at hm
        obtain ⟨a, ha, ea⟩ := List.mem_map.mp hm
        have := (srt_perm a.2).length_eq
        rw [show srt a.2 = [] from ea.trans z] at this
        exact (hps a ha).1 (List.length_eq_zero_iff.mp this.symm)
      rw [show ∀ σ H Q, tNil σ H Q = Q [] H from fun _ _ _ => rfl]
      refine lines_sorted (K := K) hL hqs (by rw [List.length_map] at hlen; omega) qne fun q2 rs hq2 hrs hin => ⟨q2, _, rfl, .inl ⟨SqL.of upd_same, fun t ht => ?_⟩⟩
      have s7 := (same_new (o := .lst (rs.map fun q => V.ref q.1)) hq2).trans (same_new (o := .tup (rs.map fun q => V.ref q.1)) ht)
      exact k t rs _ (s6.trans s7) ⟨upd_same, fun q hq => s7 _ _ (hqs q (hin q hq))⟩ (by rw [hrs, eqs]; rfl)
def sp_law_isT (C : Addr) : Sp := fun vs H Q _ => ∃ (p sd nd d l : Addr) (cs : List (Str × Nat)) (r : Nat) (ps : List (Addr × List Str)), vs = [.ref p, .ref d, .int (r : Int), .ref l] ∧ LayAt C H p sd nd (srtCs cs) r (ps.map Prod.snd) ∧ H d = some (.dK (cellKv cs)) ∧ GoodCs cs ∧ r ≤ 64 ∧ LinesAt H l ps ∧
  (∀ p ∈ ps, p.2 ≠ []) ∧ (ps.flatMap Prod.snd).Perm (cs.map Prod.fst) ∧ linesOf ps = ps.map Prod.snd ∧ ∀ H', Same H H' → Q (.bl true) H'
theorem ok_law_isT {f C : Addr} {fd : FuncData} (F : Fun K "_law_is" "_law_is" s_law_is f fd) (T : Txt0 K mg) (TM : TxtM mg) (TL : TxtL K mg C) (M : LayM P w K mg base C) (GO : OkF P w K mg base CX0 "_law_order" p_law_order 1 sp_law_orderT) : FnG P w K mg base CX0 2 f fd p_law_is (sp_law_isT C) := by
  refine Vf.Fun.okG F sc_law_is (fun vs H Q E h => ?_) (fun cdv A outer s H vs Q E hcm hr h => ?_)
  · obtain ⟨p, sd, nd, d, l, cs, r, ps, rfl, _⟩ := h
    rfl
  · obtain ⟨p, sd, nd, d, l, cs, r, ps, rfl, lay, hd, g, r64, hl, hne, perm, ord, k⟩ := h
    rw [← ord] at lay
    obtain ⟨fc, fdc, mc, Fc, bc⟩ := M.cells
    obtain ⟨fl, fdl, ml, Fl, bl⟩ := M.line
    refine ⟨_, pss_cons (ps_set (i := 4) sc_law_is.nd rfl (Or.inl rfl) (pe_fn GO hr rfl pass0 (pa_cons (pv 3) pa_nil)))
      (pss_cons (ps_if (PW.pt (pw_or (pt_cmpR op_ne (pe_callB (cr_reprA hcm hr) (by rfl) TM.repr boot_repr (pa_cons (pe_fld (pv 0) rfl) pa_nil)) (pe_callB (cr_reprA hcm hr) (by rfl) TM.repr boot_repr (pa_cons (pv 4) pa_nil)) (nomark _))
          (pw_or1 (pt_cmpR op_ne (pe_callB (cr_reprA hcm hr) (by rfl) TM.repr boot_repr (pa_cons (pe_fld (pv 0) rfl) pa_nil)) (pe_callB (cr_reprA hcm hr) (by rfl) TM.repr boot_repr (pa_cons (pv 2) pa_nil)) (nomark _))))) (pss_one (ps_ret pe_bl)) pss_nil)
      (pss_cons (ps_if (PW.pt (pw_or (pt_cmpR (op_ne_dictA (Nat.lt_of_le_of_lt (Nat.le_add_right _ 64) hr.units)) (pe_meth0 (pv 0) TL.cl mc Fc hr bc .nil pass0) (pv 1) (nomark _))
          (pw_or1 (pt_cmpR op_ne (pe_callB (cr_reprA hcm hr) (by rfl) TM.repr boot_repr (pa_cons (pe_callB (cr_sortItK rfl hr) (by rfl) T.sorted (by decide +kernel) (pa_cons (pe_ditems (pe_meth0 (pv 0) TL.cl mc Fc hr bc .nil pass0)) pa_nil)) pa_nil))
            (pe_callB (cr_reprA hcm hr) (by rfl) TM.repr boot_repr (pa_cons (pe_callB (cr_sortItK rfl hr) (by rfl) T.sorted (by decide +kernel) (pa_cons (pe_ditems (pv 1)) pa_nil)) pa_nil)) (nomark _))))) (pss_one (ps_ret pe_bl)) pss_nil)
      (pss_cons (ps_for PassesOwn.never rfl (pi_enumT (by rfl) T.enumerate (pa_cons (pv 4) pa_nil)) (pg_tup (by rfl) (pgs_cons (pg_name (i := 5) sc_law_is.nd rfl (Or.inl rfl)) (pgs_cons (pg_name (i := 6) sc_law_is.nd rfl (Or.inl rfl)) pgs_nil)))
        (pss_one (ps_for PassesOwn.never rfl (pi_tup (pv 6)) (pg_name (i := 7) sc_law_is.nd rfl (Or.inl rfl))
          (pss_one (ps_if (pt_cmpR op_ne (pe_callB (cr_reprA hcm hr) (by rfl) TM.repr boot_repr (pa_cons (pe_meth (pv 0) TL.cl ml Fl hr bl .nil pass0 (pa_cons (pv 7) pa_nil)) pa_nil)) (pe_callB (cr_reprA hcm hr) (by rfl) TM.repr boot_repr (pa_cons (pv 5) pa_nil)) (nomark _)) (pss_one (ps_ret pe_bl)) pss_nil)))))
      (pss_one (ps_ret pe_bl))))), ?_⟩
    have l6 : (ps.flatMap Prod.snd).length ≤ 6 := by
      have h1 := perm.length_eq
      have h2 := g.few
      rw [List.length_map] at h1
      omega
    have lp := flat_len hne
    have gls := linesOf_good g perm hne
    have gnd := linesOf_nodup g perm
    have few := g.few
    have gr := g.some
    have sl := srtCs_len cs
    have sne : srtCs cs ≠ [] := fun z => by
      rw [z] at sl
      exact gr (List.length_eq_zero_iff.mp sl.symm)
    have sp := srtP_same (srtCs_perm g)
    have gpr : ∀ c ∈ srtP cs, isNameT c.1 = true ∧ c.2 ≤ 8 := fun c hc => by
      have := (List.mergeSort_perm cs (PySem.W.dataLe false prD)).mem_iff.mp hc
      exact ⟨g.name c this, (g.size c this).2⟩
    have lpr : (srtP cs).length = cs.length := (List.mergeSort_perm cs (PySem.W.dataLe false prD)).length_eq
    have noC : ¬ (("cells" : Str)) = "_sizes" ∧ ¬ (("cells" : Str)) = "room" ∧ ¬ (("cells" : Str)) = "lines" ∧ ¬ (("cells" : Str)) = "_numbers" := by decide +kernel
    have noL : ¬ (("line_of" : Str)) = "_sizes" ∧ ¬ (("line_of" : Str)) = "room" ∧ ¬ (("line_of" : Str)) = "lines" ∧ ¬ (("line_of" : Str)) = "_numbers" := by decide +kernel
    refine ⟨_, rfl, l, ps, rfl, hl, fun p hp => ⟨hne p hp, Nat.le_trans (flat_part hp) l6⟩, by omega, fun t rs H1 s1 lt ers => ?_⟩
    have lay1 := lay.same s1
    have hd1 := s1 _ _ hd
    obtain ⟨dx, t0, qs, h1, h2, h3, h4, h5⟩ := id lay1
    have R1 : ReprIs K H1 (.ref t0) (linesD (linesOf ps)).shown := by rw [← h5]; exact repr_lines h4 (by rw [h5]; exact gls)
    have R2 : ReprIs K H1 (.ref t) (linesD (linesOf ps)).shown := by rw [← ers]; exact repr_lines lt (by rw [ers]; exact gls)
    have R3 : ReprIs K H1 (.int (r : Int)) (toString (r : Int)) := .int (log_le (by omega))
    refine ⟨_, rfl, p, C, dx, _, _, rfl, h1, TL.cl, TL.nL, lk_lines, _, _, rfl, R1, _, rfl, _, _, rfl, R2, rfl, _, rfl, ?_⟩
    rw [decide_eq_true (p := V.str (linesD (linesOf ps)).shown = V.str (linesD (linesOf ps)).shown) rfl]
    refine iteF ⟨_, rfl, p, C, dx, _, _, rfl, h1, TL.cl, TL.nR, lk_room, _, _, rfl, R3, _, rfl, _, _, rfl, R3, rfl, _, rfl, ?_⟩
    rw [decide_eq_true (p := V.str (toString (r : Int)) = V.str (toString (r : Int))) rfl]
    refine iteF ⟨_, rfl, p, dx, _, rfl, h1, lk_none noC, p, sd, nd, _, _, _, rfl, lay1, fun q hq => ?_⟩
    have sq := same_new (o := .dK (cellKv (srtCs cs))) hq
    have hd2 := sq _ _ hd1
    have lay2 := lay1.same sq
    have lt2 := lt.same sq
    have h12 := sq _ _ h1
    refine ⟨_, rfl, q, d, _, _, rfl, rfl, upd_same, hd2, (by unfold cellKv; rw [List.length_map, List.length_map, sl]), fun c hc => ?_, _, rfl, iteF ?_⟩
    · obtain ⟨c', hc', rfl⟩ := List.mem_map.mp hc
      refine ⟨?_, rfl⟩
      have hm := (srtCs_perm g).mem_iff.mp hc'
      show valV (cellKv cs) (Sum.inr c'.1) = some (V.int (c'.2 : Int))
      rw [valV_cells, size_of_mem g.nd hm]
      rfl
    generalize upd H1 q (.dK (cellKv (srtCs cs))) = H2 at hd2 lay2 lt2 h12 sq ⊢
    have s12 := s1.trans sq
    refine ⟨_, rfl, p, dx, _, rfl, h12, lk_none noC, p, sd, nd, _, _, _, rfl, lay2, fun q3 hq3 => ⟨.inr (.inr (.inl ⟨rfl, .inl ⟨_, upd_same⟩⟩)), q3, _, rfl, rfl, upd_same, fun v3 hv3 => ⟨v3, q3, srtCs cs, rfl, upd_same, same_new hv3 _ _ upd_same, by omega, sne, fun H3 l3 qs3 s3 hl3 e3 t3 p3 => ?_⟩⟩⟩
    have ss3 : Same H2 H3 := ((same_new hq3).trans (same_new hv3)).trans s3
    rw [sp] at p3
    have R4 : ReprIs K H3 (.ref l3) (PyData.list ((srtP cs).map prD)).shown := by
      rw [← p3]
      refine repr_pairs e3 t3 ?_ (by rw [p3]; exact gpr)
      rw [← List.length_map (f := fun q : Addr × Str × Nat => q.2), p3, lpr]
      exact few
    have hd3 := ss3 _ _ hd2
    refine ⟨_, _, rfl, R4, _, rfl, .inr (.inr (.inl ⟨rfl, .inl ⟨_, hd3⟩⟩)), d, _, rfl, rfl, hd3, fun v4 hv4 => ⟨v4, d, cs, rfl, upd_same, same_new hv4 _ _ hd3, by omega, gr, fun H4 l4 qs4 s4 hl4 e4 t4 p4 => ?_⟩⟩
    have ss4 : Same H3 H4 := (same_new hv4).trans s4
    have R5 : ReprIs K H4 (.ref l4) (PyData.list ((srtP cs).map prD)).shown := by
      rw [← p4]
      refine repr_pairs e4 t4 ?_ (by rw [p4]; exact gpr)
      rw [← List.length_map (f := fun q : Addr × Str × Nat => q.2), p4, lpr]
      exact few
    refine ⟨_, _, rfl, R5, rfl, _, rfl, ?_⟩
    rw [decide_eq_true (p := V.str (PyData.list ((srtP cs).map prD)).shown = V.str (PyData.list ((srtP cs).map prD)).shown) rfl]
    have s04 : Same H H4 := s12.trans (ss3.trans ss4)
    have lay4 := lay2.same (ss3.trans ss4)
    have lt4 := lt2.same (ss3.trans ss4)
    have wt : Walk (IteT K t) rs.length (fun H => SqT K H t (rs.map fun q => V.ref q.1)) (YPair (fun i => some (.int (i : Nat))) (fun i => (rs.map fun q => V.ref q.1)[i]?)) := (walk_enumT (K := K) (a := t) (xs := rs.map fun q => V.ref q.1) |> fun z => by rw [List.length_map] at z; exact z)
    refine iteF ⟨_, rfl, t, _, rfl, SqT.of lt4.1, for_it wt (fun i σ H' => ∃ v5 v6 v7, σ = [some (.ref p), some (.ref d), some (.int (r : Int)), some (.ref l), some (.ref t), v5, v6, v7] ∧ Same H4 H') ⟨_, _, _, rfl, Same.refl _⟩ (fun i σ H' _ ⟨_, _, _, _, s⟩ => SqT.of (s _ _ lt4.1)) ?_ ?_⟩
    · rintro i x σ H5 H6 hi ⟨v5, v6, v7, rfl, s5⟩ ⟨T1, x1, x2, rfl, hT1, rfl, hx1, hx2⟩
      have ha : rs[i]? = some rs[i] := List.getElem?_eq_getElem hi
      generalize rs[i] = a at ha
      have hm := List.mem_of_getElem? ha
      obtain rfl : V.int (i : Nat) = x1 := Option.some.inj hx1
      replace hx2 : (rs.map fun q => V.ref q.1)[i]? = some x2 := hx2
      rw [List.getElem?_map, ha] at hx2
      obtain rfl : V.ref a.1 = x2 := Option.some.inj hx2
      have al : (linesOf ps)[i]? = some a.2 := by rw [← ers, List.getElem?_map, ha]; rfl
      have sT := s5.trans (same_new (o := .tup [.int (i : Nat), .ref a.1]) hT1)
      have wa : Walk (Itt K a.1) a.2.length (fun H => SqT K H a.1 (a.2.map V.str)) (YAt (a.2.map V.str)) := (walk_tup (K := K) (a := a.1) (xs := a.2.map V.str) |> fun z => by rw [List.length_map] at z; exact z)
      refine ⟨T1, _, rfl, SqT.of upd_same, rfl, _, _, rfl, _, _, rfl, rfl, _, rfl, a.1, rfl, ⟨_, SqT.of (sT _ _ (lt4.2 a hm))⟩, for_it wa (fun j σ H' => ∃ v7, σ = [some (.ref p), some (.ref d), some (.int (r : Int)), some (.ref l), some (.ref t), some (.int (i : Nat)), some (.ref a.1), v7] ∧ Same H4 H') ⟨_, rfl, sT⟩ (fun j σ H' _ ⟨_, _, s⟩ => SqT.of (s _ _ (lt4.2 a hm))) ?_ ?_⟩
      · rintro j y σ H7 H8 hj ⟨v7', rfl, s7⟩ ⟨rfl, hy⟩
        have hz : a.2[j]? = some a.2[j] := List.getElem?_eq_getElem hj
        generalize a.2[j] = z at hz
        rw [List.getElem?_map, hz] at hy
        obtain rfl : V.str z = y := Option.some.inj hy
        have lay8 := lay4.same s7
        obtain ⟨dx8, t8, qs8, g1, _⟩ := id lay8
        have i6 : i < 6 := by
          have := (List.getElem?_eq_some_iff.mp al).1
          have := gls.few
          omega
        have R6 : ∀ H, ReprIs K H (.int ((i : Nat) : Int)) (toString ((i : Nat) : Int)) := fun H => .int (log_le (by omega))
        refine ⟨_, rfl, p, dx8, _, rfl, g1, lk_none noL, _, rfl, p, sd, nd, _, r, linesOf ps, z, i, rfl, lay8, num_val gnd al (List.mem_of_getElem? hz), _, _, rfl, R6 _, _, rfl, _, _, rfl, R6 _, rfl, _, rfl, ?_⟩
        rw [decide_eq_true (p := V.str (toString ((i : Nat) : Int)) = V.str (toString ((i : Nat) : Int))) rfl]
        exact iteF ⟨_, rfl, s7⟩
      · rintro σ H7 ⟨v7', rfl, s7⟩
        exact ⟨_, _, _, rfl, s7⟩
    · rintro σ H5 ⟨v5, v6, v7, rfl, s5⟩
      exact k _ (s04.trans s5)
end
end Vf

set_option maxRecDepth 100000
set_option maxHeartbeats 4000000
namespace Vf
open PySem PySem.Spec PyProof.Rows L2
section
variable {P : Program} {w : World} {K : PySem.W.Frag} {mg mb : Str → Option Value} {a c T : Addr} {s₁ : Shared} {vs : List Value} {H : Hp}
/-- what H tracks ahead of the statement: the table, and the script unless the top has it -/
structure Ahead (K : PySem.W.Frag) (h : Heap) (a T : Addr) (vs : List Value) (H : Hp) : Prop where
  tab : H T = some (.tbl #[])
  atT : h.get? T = some { cls := .none, data := .fields #[] }
  only : ∀ b u, H b = some u → b = T ∨ (b = a ∧ K.lookup a = none ∧ ∃ xs, u = .frz { cls := .type "list", data := .seq vs.toArray } (.lst xs))
  noT : K.lookup T = none
variable (W : Ahead K s₁.heap a T vs H) (at_a : s₁.heap.get? a = some { cls := .type "list", data := .seq vs.toArray })
include W at_a
theorem Ahead.free {b : Addr} {o : Obj} (e : s₁.heap.get? b = some o) (h1 : ∀ xs n, o.data ≠ .seq xs n) (h2 : o.data ≠ .fields #[]) : H b = none := by
  match tr : H b with
  | none => rfl
  | some u =>
    rcases W.only b u tr with z | ⟨z, _, _⟩
    · rw [z, W.atT] at e
      cases e
      exact (h2 rfl).elim
    · rw [z, at_a] at e
      cases e
      exact (h1 _ _ rfl).elim
theorem Ahead.sees {b : Addr} {m : Str → Option Value} (n : s₁.heap.Ns b m) : (hidT s₁.heap H).Ns b m := by
  obtain ⟨o, es, ep, e, d, r⟩ := n
  exact ⟨o, es, ep, hidT_get e (W.free at_a e (fun _ _ z => by rw [d] at z; cases z) fun z => by rw [d] at z; cases z), d, r⟩
theorem Ahead.kin (inK : K.In s₁.heap) : K.In (hidT s₁.heap H) := by
  intro b o look
  refine hidT_get (inK b o look) ?_
  match tr : H b with
  | none => rfl
  | some u =>
    rcases W.only b u tr with z | ⟨z, none, _⟩
    · rw [z, W.noT] at look
      cases look
    · rw [z, none] at look
      cases look
theorem Ahead.env (inK : K.In s₁.heap) (nm : s₁.heap.Ns mainGlobals mg) (nb : s₁.heap.Ns builtinsNs mb) (bb : ∀ x : Str, x ≠ "__name__" → mb x = bootBuiltins x) (lim : s₁.heap.NoLimit) (gens : s₁.gens = #[]) (ok : HOk P w H s₁.heap) :
    Env0 P w K mg (hidT s₁.heap H) callerA [] s₁ H := by
  obtain ⟨mc, l1, l2⟩ := lim
  exact ⟨rfl, ⟨W.kin at_a inK, W.sees at_a nm, ⟨mb, W.sees at_a nb, bb⟩, ⟨mc, W.sees at_a l1, l2⟩⟩, fun _ _ at_b => of_hidT at_b, Nat.le_of_eq (hidT_size _ _), trivial, (fun b no => absurd (show b ∈ ([] : List Addr) from no) (by simp)), ok, AllBare.of_eq gens⟩
theorem Ahead.maker (C : PySem.W.CodeHd s₁.heap c T) (nm : s₁.heap.Ns mainGlobals mg) (bm : ∃ (bm : Addr) (ob : Obj), mg "__builtins__" = some (.ref bm) ∧ bm ≠ builtinsNs ∧ s₁.heap.get? bm = some ob ∧ ob.cls = .type "module" ∧ ob.dict = some builtinsNs ∧ ob.data = .plain) :
    LamX.TabB (hidT s₁.heap H) mg c T := by
  obtain ⟨og, es, ep, eg, dg, _⟩ := nm
  refine ⟨?_, ?_, fun z => ?_⟩
  · obtain ⟨o, us, file, tf, flags, tg, inF, text, tt, e, r1, r2, r3, rest⟩ := C
    refine ⟨o, us, file, tf, flags, tg, inF, text, tt, hidT_get e (W.free at_a e (fun _ _ z => by rw [r2] at z; cases z) fun z => ?_), r1, r2, r3, rest⟩
    rw [r2] at z
    cases z
    simp at r3
  · obtain ⟨b, ob, b1, b2, b3, b4, b5, b6⟩ := bm
    refine ⟨b, ob, b1, b2, fun z => ?_, fun z => ?_, hidT_get b3 (W.free at_a b3 (fun _ _ z => by rw [b6] at z; cases z) fun z => by rw [b6] at z; cases z), b4, b5, b6⟩
    · rw [z, eg] at b3
      cases b3
      rw [dg] at b6
      cases b6
    · rw [z, W.atT] at b3
      cases b3
      cases b6
  · rw [z, W.atT] at eg
    cases eg
    cases dg
/-- a call by the caller that tells True -/
theorem Ahead.run {CX : CXT} {k : Nat} {fa : Addr} {fd : FuncData} {x : Str} {sp : Sp} (F : FnG P w K mg (hidT s₁.heap H) CX k fa fd [x] sp) (room : Room k callerA) (bind : ∀ (s : Shared) (u : Value), BindsTo s fd ⟨[u], []⟩ [(x, u)])
    (C : PySem.W.CodeHd s₁.heap c T) (env : Env0 P w K mg (hidT s₁.heap H) callerA [] s₁ H) (q : sp [.ref a] H (fun v _ => v = .bl true) fun _ _ _ => False) (noX : ∀ e s', CX [] H s₁ (fun _ _ _ => False) e s' → False) :
    codeAny (model P w) callerA (.call (.ref fa) ⟨[.ref a], []⟩) (fun r s' => r = .ok (.ret (.bool true)) ∧ OldK s₁.heap s'.heap ∧ s'.os = s₁.os ∧ AllBare s'.gens) s₁ := by
  have one : Vals [V.ref a] [Value.ref a] := .cons rfl .nil
  refine codeAny_mono (F.run callerA [] s₁ H ⟨[.ref a], []⟩ [.ref a] [.ref a] _ _ rfl room env (bind s₁ (.ref a)) one q) fun out s' told => ?_
  match out, told with
  | .error e, told => exact (noX e s' told).elim
  | .ok .next, told => exact (told : False).elim
  | .ok .brk, told => exact (told : False).elim
  | .ok .cont, told => exact (told : False).elim
  | .ok (.ret u), told =>
    obtain ⟨v, H', eos, bare, un, ok', rel, ev⟩ := told
    obtain rfl : v = .bl true := ev
    obtain rfl : u = Value.bool true := rel
    obtain ⟨more, grown⟩ := un.tbls T #[] W.tab
    have atT' : s'.heap.get? T = some { cls := .none, data := .fields (#[] ++ more) } := ok' T _ grown
    have stay : ∀ b o, b ≠ T → s₁.heap.get? b = some o → s'.heap.get? b = some o := by
      intro b o nT at_b
      match tr : H b with
      | none => exact un.keep b o at_b tr (fun z => nomatch z) (by simp)
      | some u =>
        rcases W.only b u tr with z | ⟨_, _, xs, z⟩
        · exact absurd z nT
        · rw [z] at tr
          obtain ⟨before, _⟩ := env.hok b _ tr
          obtain ⟨behind, _⟩ := ok' b _ (un.frzs b _ _ tr)
          rw [before] at at_b
          cases at_b
          exact behind
    refine ⟨rfl, ⟨fun b o e => ?_, fun b o e => ?_⟩, eos, bare⟩
    · by_cases hb : b = T
      · subst hb
        have e' := e
        rw [W.atT] at e'
        cases e'
        exact .inr (.inl ⟨(C.tab W.atT).isCodeTable, rfl, #[], more, rfl, atT'⟩)
      · exact .inl (stay b o hb e)
    · by_cases hb : b = T
      · exact ⟨_, hb ▸ atT'⟩
      · exact ⟨o, stay b o hb e⟩
omit W at_a
theorem head_tab {CX : CXT} {k : Nat} {fa : Addr} {fd : FuncData} {x : Str} {sp : Sp} {ns : List Int} (inK : K.In s₁.heap) (nm : s₁.heap.Ns mainGlobals mg) (nb : s₁.heap.Ns builtinsNs mb) (bb : ∀ x : Str, x ≠ "__name__" → mb x = bootBuiltins x) (lim : s₁.heap.NoLimit)
    (gens : s₁.gens = #[]) (at_a : s₁.heap.get? a = some { cls := .type "list", data := .seq vs.toArray }) (isI : IntsAre vs ns) (hl : ns.length ≤ sizeLine) (room : Room k callerA)
    (atT : s₁.heap.get? T = some { cls := .none, data := .fields #[] }) (noT : K.lookup T = none) (C : PySem.W.CodeHd s₁.heap c T)
    (bm : ∃ (bm : Addr) (ob : Obj), mg "__builtins__" = some (.ref bm) ∧ bm ≠ builtinsNs ∧ s₁.heap.get? bm = some ob ∧ ob.cls = .type "module" ∧ ob.dict = some builtinsNs ∧ ob.data = .plain)
    (F : ∀ base : Heap, K.In base → base.Ns mainGlobals mg → LamX.TabB base mg c T → FnG P w K mg base CX k fa fd [x] sp) (bind : ∀ (s : Shared) (u : Value), BindsTo s fd ⟨[u], []⟩ [(x, u)])
    (hsp : ∀ H : Hp, H T = some (.tbl #[]) → SqL K H a (ns.map V.int) → sp [.ref a] H (fun v _ => v = .bl true) fun _ _ _ => False) (noX : ∀ H e s', CX [] H s₁ (fun _ _ _ => False) e s' → False) :
    codeAny (model P w) callerA (.call (.ref fa) ⟨[.ref a], []⟩) (fun r s' => r = .ok (.ret (.bool true)) ∧ OldK s₁.heap s'.heap ∧ s'.os = s₁.os ∧ AllBare s'.gens) s₁ := by
  have rel := vals_ints isI
  have short : (ns.map V.int).length ≤ sizeLine := by rwa [List.length_map]
  have aT : a ≠ T := fun z => by
    rw [z, atT] at at_a
    cases at_a
  have go : ∀ H : Hp, Ahead K s₁.heap a T vs H → HOk P w H s₁.heap → SqL K H a (ns.map V.int) → codeAny (model P w) callerA (.call (.ref fa) ⟨[.ref a], []⟩) (fun r s' => r = .ok (.ret (.bool true)) ∧ OldK s₁.heap s'.heap ∧ s'.os = s₁.os ∧ AllBare s'.gens) s₁ := by
    intro H W ok isL
    have env := W.env at_a inK nm nb bb lim gens ok (P := P) (w := w)
    exact W.run at_a (F _ env.mod.kin env.mod.glob (W.maker at_a C nm bm)) room bind C env (hsp H W.tab isL) (noX H)
  cases look : K.lookup a with
  | some o =>
    have z := inK a o look
    rw [at_a] at z
    cases z
    let H : Hp := fun b => if b = T then some (.tbl #[]) else none
    have hT : H T = some (.tbl #[]) := if_pos rfl
    refine go H ⟨hT, atT, fun b u e => ?_, noT⟩ (fun b u e => ?_) (.inr ⟨_, vs.toArray, _, look, rfl, rfl, rfl, ?_, by simpa using rel⟩)
    · by_cases hb : b = T
      · exact .inl hb
      · rw [show H b = none from if_neg hb] at e
        cases e
    · by_cases hb : b = T
      · subst hb
        rw [hT] at e
        cases e
        exact atT
      · rw [show H b = none from if_neg hb] at e
        cases e
    · rw [List.size_toArray, isI.length]
      exact hl
  | none =>
    let H : Hp := fun b => if b = T then some (.tbl #[]) else if b = a then some (.frz { cls := .type "list", data := .seq vs.toArray } (.lst (ns.map V.int))) else none
    have hT : H T = some (.tbl #[]) := if_pos rfl
    have hA : H a = some (.frz { cls := .type "list", data := .seq vs.toArray } (.lst (ns.map V.int))) := (if_neg aT).trans (if_pos rfl)
    have hN : ∀ b, b ≠ T → b ≠ a → H b = none := fun b h1 h2 => (if_neg h1).trans (if_neg h2)
    refine go H ⟨hT, atT, fun b u e => ?_, noT⟩ (fun b u e => ?_) (.inl (.inr ⟨_, hA⟩))
    · by_cases hb : b = T
      · exact .inl hb
      · by_cases hc : b = a
        · subst hc
          rw [hA] at e
          cases e
          exact .inr ⟨rfl, look, _, rfl⟩
        · rw [hN b hb hc] at e
          cases e
    · by_cases hb : b = T
      · subst hb
        rw [hT] at e
        cases e
        exact atT
      · by_cases hc : b = a
        · subst hc
          rw [hA] at e
          cases e
          exact ⟨at_a, short, vs, _, rel, at_a⟩
        · rw [hN b hb hc] at e
          cases e
end
theorem walk_tab {l : PySem.W.OpenLaw} {n k : Nat} {q : Program} {loose : List Str} {XP : (Str → Option Value) → Heap → Prop} {YP : World → Heap → Prop} {d : DefRec} {K : Params → PySem.W.Frag} {CX : World → CXT} {sp : World → Addr → Sp} {x : Str}
    (hn : l.most = some n) (fits : n ≤ sizeLine) (hdf : d.params.defaults = []) (room : Room k callerA) (inK : ∀ (w : World) (h : Heap), YP w h → (K w.params).In h)
    (F : ∀ (w : World) (mg : Str → Option Value) (fa : Addr) (h : Heap), YP w h → (K w.params).In h → h.Ns mainGlobals mg → mg d.name = some (.ref fa) →
      ∃ (fd : FuncData) (c T : Addr), (∀ (s : Shared) (u : Value), BindsTo s fd ⟨[u], []⟩ [(x, u)]) ∧ h.get? T = some { cls := .none, data := .fields #[] } ∧ (K w.params).lookup T = none ∧ PySem.W.CodeHd h c T ∧
        ∀ base : Heap, (K w.params).In base → base.Ns mainGlobals mg → LamX.TabB base mg c T → FnG l.prog w (K w.params) mg base (CX w) k fa fd [x] (sp w T))
    (hsp : ∀ (w : World) (T : Addr) (H : Hp) (a : Addr) (ns : List Int), ns.length ≤ n → H T = some (.tbl #[]) → SqL (K w.params) H a (ns.map V.int) → sp w T [.ref a] H (fun v _ => v = .bl true) fun _ _ _ => False)
    (noX : ∀ (w : World) (H : Hp) (s : Shared) (e : Value) (s' : Shared), CX w [] H s (fun _ _ _ => False) e s' → False) :
    PySem.W.WalkO q loose XP YP l.row.toRowW d [] (fun f vs => PySem.call f vs) := by
  refine Att.attach_call hn hdf fun w s₀ s₁ mg mb fa o pm cd doc a vs ns G Y _ _ _ hmg at_a isI few gens => ?_
  obtain ⟨fd, c, T, bind, atT, noT, C, hF⟩ := F w mg fa _ Y (inK w _ Y) G.T.g hmg
  exact head_tab (inK w _ Y) G.T.g G.T.b G.T.builtins G.T.nolimit gens at_a isI (Nat.le_trans few fits) room atT noT C G.T.bmain hF bind (fun H hT hS => hsp w T H a ns few hT hS) fun H e s' => noX w H s₁ e s'
end Vf

set_option maxRecDepth 100000
set_option maxHeartbeats 32000000
namespace Vf
open PySem PySem.Spec PyProof.Rows L2
theorem SqL.ext {K : PySem.W.Frag} {H H' : Hp} {a : Addr} {xs : List V} (h : SqL K H a xs) (s : LamX.ExtN H H') : SqL K H' a xs := by
  rcases h with (h | ⟨o, h⟩) | h
  · exact .inl (.inl (s _ _ h (by intro ps z; cases z)))
  · exact .inl (.inr ⟨o, s _ _ h (by intro ps z; cases z)⟩)
  · exact .inr h
theorem pe_fldK {X : Cx} (K : PySem.W.Frag) {e : Expr} {ta : TE} {f : Str} {pos : Pos} (hK : X.K = K) (he : PE X e ta) (hb : attributeBase e f X.env (eval e X.env) = eval e X.env) : PE X (.Attribute e f pos) (tFld K ta f) := by
  subst hK
  exact pe_fld he hb
def cellD (cs : List (Str × Nat)) : List (PyData × PyData) := cs.map fun c => (PyData.str c.1, PyData.int (c.2 : Int))
theorem flat_cells : ∀ cs : List (Str × Nat), FlatD (cellKv cs) (cellD cs)
  | [] => .nil
  | c :: cs => .cons rfl (flat_cells cs)
theorem sh_cells : ∀ {cs : List (Str × Nat)}, (∀ c ∈ cs, isNameT c.1 = true ∧ c.2 ≤ 8) → PyData.showableKv (cellD cs) = true ∧ PyData.leavesShortKv 13 (cellD cs) = true ∧ PyData.weightKv (cellD cs) ≤ 30 * cs.length ∧ (PyData.dict (cellD cs)).depth ≤ 1
  | [], _ => ⟨rfl, rfl, by simp [cellD, PyData.weightKv], by decide⟩
  | c :: cs, h => by
    obtain ⟨a, b, d, e5⟩ := sh_cells (cs := cs) fun y hy => h y (List.mem_cons_of_mem _ hy)
    obtain ⟨hz, h8⟩ := h c List.mem_cons_self
    have l8 := (name_len hz).2
    have e : c.1.cps.size = c.1.length := rfl
    have w5 := wt_int h8
    have s1 := sh_show (.str c.1) (ok_name hz)
    have s2 := sh_show (.int (c.2 : Int)) (by simp only [shD]; rw [decide_eq_true (p := (0 : Int) ≤ (c.2 : Int)) (by omega), decide_eq_true (p := (c.2 : Int) < 1000000) (by omega)]; rfl)
    refine ⟨?_, ?_, ?_, ?_⟩
    · show (PyData.showable _ && PyData.showable _ && PyData.showableKv (cellD cs)) = true
      rw [s1.1, s2.1, a]; rfl
    · show (PyData.leavesShort 13 _ && PyData.leavesShort 13 _ && PyData.leavesShortKv 13 (cellD cs)) = true
      rw [s1.2.2, s2.2.2, b]; rfl
    · show PyData.weight (.str c.1) + PyData.weight (.int (c.2 : Int)) + 2 + PyData.weightKv (cellD cs) ≤ _
      simp only [PyData.weight, List.length_cons, e]
      omega
    · simp only [cellD, List.map_cons, PyData.depth, PyData.depthKv] at e5 ⊢
      omega
theorem repr_cells {K : PySem.W.Frag} {H : Hp} {d : Addr} {cs : List (Str × Nat)} (hd : H d = some (.dK (cellKv cs))) (g : GoodCs cs) : ReprIs K H (.ref d) (PyData.dict (cellD cs)).shown := by
  obtain ⟨a, b, c, e⟩ := sh_cells (cs := cs) fun c hc => ⟨g.name c hc, (g.size c hc).2⟩
  have few := g.few
  refine .dic hd (flat_cells cs) (by simp only [PyData.showable]; exact a) (by omega) ?_
  have := PyData.shown_le 13 (by decide) (.dict (cellD cs)) (by simp only [PyData.leavesShort]; exact b)
  simp only [PyData.weight] at this
  rw [sizeLine_eq]
  omega
theorem refs_ints {α : Type} {ns : List Int} {bs : List (Addr × α)} (h : ns.map V.int = bs.map fun b => V.ref b.1) : ns = [] := by
  cases ns with
  | nil => rfl
  | cons n ns =>
    cases bs with
    | nil => simp at h
    | cons b bs => simp at h
theorem SqL.cleared {α : Type} {K : PySem.W.Frag} {H : Hp} {a l : Addr} {ns : List Int} {bs : List (Addr × α)} (h : SqL K H a (ns.map V.int)) (hl : H l = some (.lst (bs.map fun b => V.ref b.1))) : SqL K (upd H l (.lst [])) a (ns.map V.int) := by
  rcases h with (h | ⟨o, h⟩) | h
  · by_cases e : a = l
    · subst e
      rw [hl] at h
      have e2 : bs.map (fun b => V.ref b.1) = ns.map V.int := HO.lst.inj (Option.some.inj h)
      rw [refs_ints e2.symm]
      exact SqL.of upd_same
    · exact .inl (.inl (by rw [upd_ne e]; exact h))
  · exact .inl (.inr ⟨o, by rw [upd_ne (ne_of h hl (by intro z; cases z))]; exact h⟩)
  · exact .inr h
theorem Tabs.put {T : List (Addr × Str)} {H : Hp} {l : Addr} {xs ys : List V} (t : LamX.Tabs T H) (hl : H l = some (.lst xs)) : LamX.Tabs T (upd H l (.lst ys)) := by
  intro p hp
  obtain ⟨ps, h1, h2, h3⟩ := t p hp
  refine ⟨ps, by rw [upd_ne (ne_of h1 hl (by intro z; cases z))]; exact h1, h2, fun pos cv hc => ?_⟩
  obtain ⟨c, e1, e2⟩ := h3 pos cv hc
  exact ⟨c, e1, by rw [upd_ne (ne_of e2 hl (by intro z; unfold LamX.CodeO at z; cases z))]; exact e2⟩
theorem LinesAt.ext {H H' : Hp} {t : Addr} {qs : List (Addr × List Str)} (h : LinesAt H t qs) (s : LamX.ExtN H H') : LinesAt H' t qs := ⟨s _ _ h.1 (by intro ps z; cases z), fun q hq => s _ _ (h.2 q hq) (by intro ps z; cases z)⟩
theorem LinesAt.off {D : Addr} {H H' : Hp} {t : Addr} {qs : List (Addr × List Str)} {xs : List V} (h : LinesAt H t qs) (hD : H D = some (.lst xs)) (b : But D H H') : LinesAt H' t qs :=
  ⟨b _ _ (ne_of h.1 hD (by intro z; cases z)) h.1, fun q hq => b _ _ (ne_of (h.2 q hq) hD (by intro z; cases z)) (h.2 q hq)⟩
theorem FoundAt.ext {H H' : Hp} {l : Addr} {fs : List (Addr × List (Addr × List Str))} (h : FoundAt H l fs) (s : LamX.ExtN H H') : FoundAt H' l fs := ⟨s _ _ h.at_ (by intro ps z; cases z), fun e he => (h.each e he).ext s⟩
theorem FoundAt.same {H H' : Hp} {l : Addr} {fs : List (Addr × List (Addr × List Str))} (h : FoundAt H l fs) (s : Same H H') : FoundAt H' l fs := ⟨s _ _ h.at_, fun e he => (h.each e he).same s⟩
theorem lines_of {H : Hp} : ∀ {ps : List (Addr × Addr × List (List Str))}, (∀ q ∈ ps, ∃ qs, LinesAt H q.1 qs ∧ qs.map Prod.snd = q.2.2) → ∃ fs : List (Addr × List (Addr × List Str)), (fs.map fun e => V.ref e.1) = (ps.map fun q => V.ref q.1) ∧ (∀ e ∈ fs, LinesAt H e.1 e.2) ∧ (fs.map fun e => e.2.map Prod.snd) = ps.map fun q => q.2.2
  | [], _ => ⟨[], rfl, (fun _ h => nomatch h), rfl⟩
  | q :: ps, h => by
    obtain ⟨qs, h1, h2⟩ := h q List.mem_cons_self
    obtain ⟨fs, e1, e2, e3⟩ := lines_of fun q' hq => h q' (List.mem_cons_of_mem _ hq)
    refine ⟨(q.1, qs) :: fs, by rw [List.map_cons, List.map_cons, e1], fun e he => ?_, by rw [List.map_cons, List.map_cons, e3, h2]⟩
    rcases List.mem_cons.mp he with rfl | he
    · exact h1
    · exact e2 e he
theorem sh_ways : ∀ {ws : List (List (List Str))}, (∀ w ∈ ws, GoodLs w) → shAll (ws.map waD) = true ∧ PyData.weightAll (ws.map waD) ≤ 500 * ws.length ∧ PyData.depthAll (ws.map waD) ≤ 2
  | [], _ => ⟨rfl, Nat.le_refl _, by simp [PyData.depthAll]⟩
  | w :: ws, h => by
    obtain ⟨a, b, c⟩ := sh_ways fun y hy => h y (List.mem_cons_of_mem _ hy)
    have g := h w List.mem_cons_self
    obtain ⟨a1, b1⟩ := sh_lines g.short g.name
    have f := g.few
    have d := depth_wa w
    refine ⟨?_, ?_, ?_⟩
    · simp only [List.map_cons, shAll, waD, shD, a1, Bool.true_and]
      exact a
    · simp only [List.map_cons, PyData.weightAll, waD, PyData.weight, List.length_cons] at b ⊢
      omega
    · simp only [List.map_cons, PyData.depthAll] at c ⊢
      omega
theorem repr_ways {K : PySem.W.Frag} {H : Hp} {l : Addr} {fs : List (Addr × List (Addr × List Str))} (h : FoundAt H l fs) (few : fs.length ≤ 720) (g : ∀ w ∈ fs.map (fun e => e.2.map Prod.snd), GoodLs w) : ReprIs K H (.ref l) (PyData.list ((fs.map fun e => e.2.map Prod.snd).map waD)).shown := by
  obtain ⟨a, b, c⟩ := sh_ways g
  have sh : shD (PyData.list ((fs.map fun e => e.2.map Prod.snd).map waD)) = true := by simp only [shD]; exact a
  obtain ⟨h1, h2, _⟩ := sh_show _ sh
  have hl2 : (fs.map fun e => e.2.map Prod.snd).length = fs.length := List.length_map ..
  have dp : ∀ {fs : List (Addr × List (Addr × List Str))}, (∀ e ∈ fs, LinesAt H e.1 e.2) → DpAll K H (fs.map fun e => V.ref e.1) ((fs.map fun e => e.2.map Prod.snd).map waD) := by
    intro fs
    induction fs with
    | nil => exact fun _ => .nil
    | cons e fs ih => exact fun h => .cons (h e List.mem_cons_self).dp (ih fun e' he => h e' (List.mem_cons_of_mem _ he))
  refine .dat (.lst (SqL.of h.at_) (dp h.each)) h1 h2 ?_ (shown_fits sh ?_)
  · simp only [PyData.depth]
    omega
  · simp only [PyData.weight]
    omega
theorem mem_cut {xs : List V} {lo hi : Option Int} {y : V} (h : y ∈ cutV xs lo hi) : y ∈ xs := by
  unfold cutV at h
  exact List.mem_of_mem_drop (List.mem_of_mem_take h)
def nm3 : List Str := ["f", "x", "a", "b", "z", "q"]
theorem nm3_ok : nm3.Nodup ∧ ∀ z ∈ nm3, isNameT z = true := ⟨by decide +kernel, List.all_eq_true.mp (show nm3.all isNameT = true by decide +kernel)⟩
theorem way_part {cs : List (Str × Nat)} (g : GoodCs cs) {r : Nat} {way : List (List Str)} (h : way ∈ allW cs r) : Part (fitB cs r) (srt (cs.map Prod.fst)) way :=
  ((ways_all (fit_mono cs r) _ _ rfl (srt_asc g.nd)).2 way).mp ((sortW_perm _).mem_iff.mp h)
theorem allW_len {cs : List (Str × Nat)} (g : GoodCs cs) (r : Nat) : (allW cs r).length ≤ 720 := by
  have h1 := (sortW_perm (waysF (fitB cs r) (srt (cs.map Prod.fst)))).length_eq
  have h2 := ways_len (fit_mono cs r) _ (srt (cs.map Prod.fst)) rfl (srt_asc g.nd)
  have h3 : (srt (cs.map Prod.fst)).length = cs.length := by rw [(srt_perm _).length_eq, List.length_map]
  have h4 := fac_le (n := (srt (cs.map Prod.fst)).length) (m := 6) (by have := g.few; omega)
  have h5 : fac 6 = 720 := by decide
  unfold allW
  omega
theorem way_good {cs : List (Str × Nat)} (g : GoodCs cs) {r : Nat} {way : List (List Str)} (h : way ∈ allW cs r) : GoodLs way := by
  have pb := way_part g h
  have perm := pb.perm.trans (srt_perm _)
  have e : linesOf (way.map fun ws => ((0 : Addr), ws)) = way := by
    unfold linesOf
    rw [List.map_map]
    exact ord_part pb
  rw [← e]
  refine linesOf_good g (ps := way.map fun ws => ((0 : Addr), ws)) ?_ fun p hp => ?_
  · rw [show (way.map fun ws => ((0 : Addr), ws)).flatMap Prod.snd = way.flatten from by rw [List.flatMap_def, List.map_map]; exact congrArg List.flatten (List.map_id way)]
    exact perm
  · obtain ⟨ws, hw, rfl⟩ := List.mem_map.mp hp
    exact pb.ne ws hw
section
variable {P : Program} {w : World} {K : PySem.W.Frag} {mg : Str → Option Value} {base : Heap}
def sp_law (K : PySem.W.Frag) (Tb : Addr) : Sp := fun vs H Q _ => ∃ (a : Addr) (ns : List Int), vs = [.ref a] ∧ SqL K H a (ns.map V.int) ∧ ns.length ≤ 63 ∧ LamX.Tabs (tabL Tb) H ∧ ∀ H', Q (.bl true) H'
theorem ok_law {f C Tb : Addr} {fd : FuncData} (F : Fun K "law" "law" s_law f fd) (T : Txt0 K mg) (TM : TxtM mg) (TL : TxtL K mg C)
    (GF : OkF P w K mg base CX0 "_law_feed" p_law_feed 1 (sp_law_feed K)) (GC : OkF P w K mg base CX0 "_law_cells" p_law_cells 4 sp_law_cells) (GT : OkF P w K mg base CX0 "_law_take" p_law_take 1 sp_law_take) (GP : OkF P w K mg base CX0 "_law_pick" p_law_pick 2 (sp_law_pick K))
    (GE : OkF P w K mg base CX0 "_law_every" p_law_every 2 sp_law_every) (GA : OkF P w K mg base CX0 "all_layouts" p_all_layouts 6 (sp_all_layouts C Tb)) (GL : OkG P w K mg base CX0 "_law_is" p_law_is 2 (sp_law_isT C)) :
    FnG P w K mg base CX0 7 f fd p_law (sp_law K Tb) := by
  refine Vf.Fun.okG F sc_law (fun vs H Q E h => ?_) (fun cdv A outer s H vs Q E hcm hr h => ?_)
  · obtain ⟨a, ns, rfl, _⟩ := h
    rfl
  · obtain ⟨a, ns, rfl, hS, hn63, tb, k⟩ := h
    have hr4 : Room 4 _ := hr.mono (by decide)
    have hr2 : Room 2 _ := hr.mono (by decide)
    have hr1 : Room 1 _ := hr.mono (by decide)
    have hu := hu_of hr
    refine ⟨_, pss_cons (ps_for PassesOwn.never rfl (pi_range1 (by rfl) TM.range (pa_cons (pe_callB (call_max2 rfl) (by rfl) T.max (by decide +kernel) (pa_cons pe_int (pa_cons (pe_callB (call_min2 rfl) (by rfl) TM.min (by decide +kernel) (pa_cons pe_int (pa_cons (pe_callB call_len_seq (by rfl) T.len PySem.boot_len (pa_cons (pv 0) pa_nil)) pa_nil))) pa_nil))) pa_nil)) (pg_name (i := 1) sc_law.nd rfl (Or.inl rfl))
        (pss_cons (ps_set (i := 2) sc_law.nd rfl (Or.inr rfl) (pe_fn GF hr1 rfl pass0 (pa_cons (pv 0) (pa_cons (pv 1) pa_nil))))
        (pss_cons (ps_set (i := 3) sc_law.nd rfl (Or.inr rfl) (pe_fn GC hr4 rfl pass0 (pa_cons (pv 2) (pa_cons pe_int pa_nil))))
        (pss_cons (ps_set (i := 4) sc_law.nd rfl (Or.inl rfl) (pe_callB (cr_max rfl) (by rfl) T.max (by decide +kernel) (pa_cons (pe_lock (pe_lc (own := [("name", 10)]) (g := gName 10) (tt := tYes) rfl sc_law.nd (pi_keys (pv 3)) (blkOk_by (N := n_law) (sc := defScope s_law) (by decide +kernel))
          (fun _ _ _ _ _ => pg_name (i := 10) sc_law.nd rfl (Or.inl rfl)) (fun _ _ _ _ _ => pts_nil) (fun _ _ _ _ _ => pe_dget hu (pv 3) (pv 10) (fun _ _ => rfl)))) pa_nil)))
        (pss_cons (ps_set (i := 5) sc_law.nd rfl (Or.inl rfl) (pe_fn GP hr2 rfl pass0 (pa_cons (pv 2) (pa_cons (pe_lst (pa_cons (pv 4) (pa_cons (pe_op op_add (pv 4) (pe_fn GT hr1 rfl pass0 (pa_cons (pv 2) (pa_cons pe_int pa_nil)))) (pa_cons pe_int
            (pa_cons (pe_callB (call_max2 rfl) (by rfl) T.max (by decide +kernel) (pa_cons pe_int (pa_cons (pe_op op_sub (pv 4) pe_int) pa_nil))) pa_nil))))) pa_nil))))
        (C8.pss_cut (ps_if (pt_cmpR op_eq (pe_fn GT hr1 rfl pass0 (pa_cons (pv 2) (pa_cons pe_int pa_nil))) pe_int (nomark _))
          (pss_one (ps_asg (pe_tup (pa_cons (pe_callTy (call_dictP rfl) (by rfl) T.dict (by decide +kernel) (pa_cons
              (pe_lc (own := [("name", 10)]) (g := gName 10) (tt := tYes) rfl sc_law.nd (pi_list (pe_callTy (cr_listS rfl) (by rfl) T.list (by decide +kernel) (pa_cons pe_str pa_nil))) (blkOk_by (N := n_law) (sc := defScope s_law) (by decide +kernel))
                (fun _ _ _ _ _ => pg_name (i := 10) sc_law.nd rfl (Or.inl rfl)) (fun _ _ _ _ _ => pts_nil)
                (fun _ _ _ _ _ => pe_tup (pa_cons (pv 10) (pa_cons (pe_op op_add pe_int (pe_fn GT hr1 rfl pass0 (pa_cons (pv 2) (pa_cons pe_int pa_nil)))) pa_nil)))) pa_nil)) (pa_cons pe_int pa_nil))) (pg_tup (by rfl) (pgs_cons (pg_name (i := 3) sc_law.nd rfl (Or.inr rfl)) (pgs_cons (pg_name (i := 5) sc_law.nd rfl (Or.inl rfl)) pgs_nil))))) pss_nil)
        (pss_cons (ps_set (i := 6) sc_law.nd rfl (Or.inl rfl) (pe_callB (cr_reprA hcm hr) (by rfl) TM.repr boot_repr (pa_cons (pv 3) pa_nil)))
        (pss_cons (ps_setLc (i := 7) (own := [("many", 11), ("lines", 12)]) (g := gTup K 2 (gCons (gName 11) (gCons (gName 12) gNil))) (tt := tYes) rfl sc_law.nd rfl rfl (sw_true rfl rfl rfl (by decide +kernel)) (pi_list (pe_fn GE hr2 rfl pass0 (pa_cons (pv 3) (pa_cons (pv 5) pa_nil)))) (blkOk_by (N := n_law) (sc := defScope s_law) (by decide +kernel))
            (fun _ _ _ _ _ => pg_tup (by rfl) (pgs_cons (pg_name (i := 11) sc_law.nd rfl (Or.inl rfl)) (pgs_cons (pg_name (i := 12) sc_law.nd rfl (Or.inl rfl)) pgs_nil))) (fun _ _ _ _ _ => pts_nil) (fun _ _ _ _ _ => pv 12))
        (pss_cons (ps_set (i := 8) sc_law.nd rfl (Or.inl rfl) (pe_fn GA hr rfl pass0 (pa_cons (pv 3) (pa_cons (pv 5) pa_nil))))
        (pss_cons (ps_if (PW.pt (pw_or (pt_not (pt_val (pe_callB call_isi (by rfl) T.isinstance boot_isinstance (pa_cons (pv 8) (pa_cons (pe_bltn (by rfl) T.list (by decide +kernel) (v := .ty "list") rfl) pa_nil)))))
            (pw_or1 (pt_cmpR op_ne (pe_callB (cr_reprA hcm hr) (by rfl) TM.repr boot_repr (pa_cons (pv 3) pa_nil)) (pv 6) (nomark _))))) (pss_one (ps_ret pe_bl)) pss_nil)
        (pss_cons (ps_if (pt_cmpR op_ne (pe_callB (cr_reprA hcm hr) (by rfl) TM.repr boot_repr (pa_cons
            (pe_lc (own := [("one", 9)]) (g := gName 9) (tt := tYes) rfl sc_law.nd (pi_list (pv 8)) (blkOk_by (N := n_law) (sc := defScope s_law) (by decide +kernel))
              (fun _ _ _ _ _ => pg_name (i := 9) sc_law.nd rfl (Or.inl rfl)) (fun _ _ _ _ _ => pts_nil) (fun _ _ _ _ _ => pe_fldK K rfl (pv 9) rfl)) pa_nil)) (pe_callB (cr_reprA hcm hr) (by rfl) TM.repr boot_repr (pa_cons (pv 7) pa_nil)) (nomark _)) (pss_one (ps_ret pe_bl)) pss_nil)
        (pss_cons (ps_for PassesOwn.never rfl (pi_list (pe_op op_cat (pe_slice sl_list (pv 8) po_none (po_some pe_int)) (pe_slice sl_list (pv 8) (po_some (pe_un un_neg pe_int)) po_none))) (pg_name (i := 9) sc_law.nd rfl (Or.inl rfl))
          (pss_one (ps_if (pt_not (pt_val (pe_fnG GL hcm hr2 rfl pass0 (pa_cons (pv 9) (pa_cons (pv 3) (pa_cons (pv 5) (pa_cons (pe_fld (pv 9) rfl) pa_nil))))))) (pss_one (ps_ret pe_bl)) pss_nil)))
        (pss_cons (ps_expr (pe_bm0 PySem.F.plainAttrs_list PySem.F.slot_list_clear PySem.F.type_list_clear mt_clear (pv 8)))
        (pss_one (ps_if (pt_cmpR op_ne (pe_callB call_len_seq (by rfl) T.len PySem.boot_len (pa_cons (pe_fn GA hr rfl pass0 (pa_cons (pv 3) (pa_cons (pv 5) pa_nil))) pa_nil)) (pe_callB call_len_seq (by rfl) T.len PySem.boot_len (pa_cons (pv 7) pa_nil)) (nomark _)) (pss_one (ps_ret pe_bl)) pss_nil)))))))))))))))
      (pss_one (ps_ret pe_bl)), ?_⟩
    refine ⟨_, rfl, a, _, rfl, .inl hS, _, _, rfl, _, _, rfl, ?_⟩
    rw [List.length_map]
    obtain ⟨Mx, hM, hM5⟩ : ∃ M : Nat, (if (if ((ns.length : Nat) : Int) < 3 then ((ns.length : Nat) : Int) else 3) > 1 then (if ((ns.length : Nat) : Int) < 3 then ((ns.length : Nat) : Int) else 3) else 1) = (M : Int) ∧ M ≤ 3 := by
      by_cases h1 : ((ns.length : Nat) : Int) < 3
      · rw [if_pos h1]
        by_cases h2 : ((ns.length : Nat) : Int) > 1
        · rw [if_pos h2]
          exact ⟨ns.length, rfl, by omega⟩
        · rw [if_neg h2]
          exact ⟨1, rfl, by decide⟩
      · rw [if_neg h1]
        exact ⟨3, rfl, by decide⟩
    rw [hM]
    refine ⟨_, rfl, by omega, by omega, ?_⟩
    rw [Int.toNat_natCast]
    refine for_it (walk_range (lo := 0) (n := Mx)) (fun i σ H' => ∃ (v1 v2 v3 v4 v5 v6 v7 v8 v9 v10 v11 v12 : Option V), σ = [some (.ref a), v1, v2, v3, v4, v5, v6, v7, v8, v9, v10, v11, v12] ∧ SqL K H' a (ns.map V.int) ∧ LamX.Tabs (tabL Tb) H')
      ⟨_, _, _, _, _, _, _, _, _, _, _, _, rfl, hS, tb⟩ (fun _ _ _ _ _ => trivial) ?_ ?_
    · rintro i x σ H1' H1 hi ⟨v1, v2, v3, v4, v5, v6, v7, v8, v9, v10, v11, v12, rfl, hS1, tb1⟩ ⟨rfl, rfl⟩
      refine ⟨_, rfl, _, rfl, a, ns, i, (by show [V.ref a, V.int (0 + (i : Int))] = _; rw [Int.zero_add]), hS1, by omega, fun p Hf sf hp0 ff => ?_⟩
      refine ⟨_, rfl, p, 5, rfl, ff, by decide, by decide, fun d0 cs0 H2 b2 f2 hd0 hd2 g0 => ?_⟩
      have few0 := g0.few
      have kl : (cellKv cs0).length = cs0.length := List.length_map ..
      have wk : ∀ {o : Obj}, Walk (Itk d0 o (cellKv cs0)) cs0.length (fun H => H d0 = some (.frz o (.dK (cellKv cs0)))) (fun i H x H' => H' = H ∧ ∃ k v, (cellKv cs0)[i]? = some (k, v) ∧ x = kV k) := fun {o} => (walk_keys (d := d0) (o := o) (kvs := cellKv cs0) |> fun z => by rw [kl] at z; exact z)
      refine ⟨d0, _, hd2, True.intro, fun o2 => ?_⟩
      have hz2 : (upd H2 d0 (.frz o2 (.dK (cellKv cs0)))) d0 = some (.frz o2 (.dK (cellKv cs0))) := upd_same
      refine ⟨_, rfl, d0, o2, rfl, .inl ⟨_, hz2, fun D2 hD2 => lc_mp cs0 wk hD2 (fun p => .int (p.2 : Int)) (by omega) (fun H5 s5 => s5 _ _ hz2) ?_ ?_⟩⟩
      · rintro j pp x H11 H12 hj s11 ⟨rfl, k', v', hkv, rfl⟩ R hR
        have e : (cellKv cs0)[j]? = some (Sum.inr pp.1, V.int (pp.2 : Int)) := by unfold cellKv; rw [List.getElem?_map, hj]; rfl
        rw [e] at hkv
        obtain rfl : Sum.inr pp.1 = k' := (Prod.mk.inj (Option.some.inj hkv)).1
        have gg : DGet H12 d0 (kV (Sum.inr pp.1)) (valV (cellKv cs0) (Sum.inr pp.1)) := .inl ⟨cellKv cs0, Sum.inr pp.1, .inr ⟨o2, s11 _ _ hz2⟩, rfl, rfl⟩
        rw [valV_cells, size_of_mem g0.nd (List.mem_of_getElem? hj)] at gg
        exact ⟨rfl, _, rfl, _, rfl, d0, _, rfl, gg, hR _ (Same.refl _)⟩
      intro H11 s11 hL2
      refine ⟨s11 _ _ hz2, D2, cs0.map (fun p => (p.2 : Int)), rfl, SqL.of ?_, by rw [List.length_map]; exact List.length_pos_iff.mpr g0.some, fun mm hm1 hm2 => ?_⟩
      · rw [upd_ne (ne_of_none hz2 hD2).symm, hL2, List.map_map]
        rfl
      obtain rfl := maxOf_of hm1 hm2
      have s12 : Same H2 (upd H11 d0 (.dK (cellKv cs0))) := unlock_same hd2 s11
      generalize (upd H11 d0 (.dK (cellKv cs0))) = H3 at s12 ⊢
      have b3 := b2.then s12
      have f3 := f2.same s12
      have hd3 := s12 _ _ hd2
      obtain ⟨mx1, mx8⟩ := maxOf_good g0
      have dp : ∀ {H' : Hp} {d : Addr} {cs : List (Str × Nat)}, FeedAt H' p → H' d = some (.dK (cellKv cs)) → d ≠ p := fun f h => by
        obtain ⟨x, y, g1, _⟩ := f
        exact (ne_of g1 h (by intro z; cases z)).symm
      refine ⟨_, rfl, _, rfl, _, rfl, _, rfl, p, 9, rfl, f3, by decide, by decide, fun k0 H4 hk0 b4 f4 => ⟨_, _, rfl, rfl, _, rfl, _, _, rfl, rfl, _, _, rfl, (by show 4 ≤ sizeLine; decide), fun c hc => ⟨p, c, _, rfl, f4.put (f4.ne hc), f4.ne hc, SqL.of upd_same, (by show 1 ≤ 4; decide), (by show 4 ≤ 1000000; decide), fun r2 v H5 hv b5 f5 => ?_⟩⟩⟩
      obtain ⟨r0, rfl, r01, r032⟩ : ∃ r : Nat, v = .int (r : Int) ∧ 1 ≤ r ∧ r ≤ 32 := by
        have hv' : ([V.int (maxOf cs0 : Int), .int ((maxOf cs0 : Int) + (k0 : Int)), .int 32, .int (if ((maxOf cs0 : Int) - 1) > 1 then ((maxOf cs0 : Int) - 1) else 1)] : List V)[r2]? = some v := hv
        match r2, hv' with
        | 0, e => exact ⟨maxOf cs0, (Option.some.inj e).symm, mx1, by omega⟩
        | 1, e => exact ⟨maxOf cs0 + k0, by rw [← Option.some.inj e]; congr 1, by omega, by omega⟩
        | 2, e => exact ⟨32, (Option.some.inj e).symm, by omega, by decide⟩
        | 3, e =>
          refine ⟨max (maxOf cs0 - 1) 1, ?_, Nat.le_max_right _ _, by omega⟩
          rw [← Option.some.inj e]
          congr 1
          split <;> omega
        | r + 4, e => exact absurd e (by simp)
      have b45 : But p H3 H5 := (b4.then (same_new hc)).trans b5
      have b05 := b3.trans b45
      have hd5 := b45 _ _ (dp f3 hd3) hd3
      refine ⟨fun σ H' => ∃ (d : Addr) (cs : List (Str × Nat)) (r : Nat) (v4 v6 v7 v8 v9 v10 v11 v12 : Option V), σ = [some (.ref a), some (.int (0 + (i : Int))), some (.ref p), some (.ref d), v4, some (.int (r : Int)), v6, v7, v8, v9, v10, v11, v12] ∧ But p Hf H' ∧ H' d = some (.dK (cellKv cs)) ∧ GoodCs cs ∧ 1 ≤ r ∧ r ≤ 32, ?_, ?_⟩
      · refine ⟨_, rfl, p, 4, rfl, f5, by decide, by decide, fun q2 H6 hq2 b6 f6 => ⟨rfl, _, rfl, ?_⟩⟩
        by_cases h0 : V.int (q2 : Int) = V.int 0
        · rw [decide_eq_true h0]
          refine iteT ⟨_, rfl, (by decide +kernel), fun pl hpl => ?_⟩
          have e3 : ∀ z : Str, z = Str.ofString "fxabzq" → z.cps.toList.map (fun c => V.str ⟨#[c]⟩) = nm3.map V.str := by
            rintro _ rfl
            rfl
          rw [e3 _ rfl]
          have s67 := same_new (o := .lst (nm3.map V.str)) hpl
          have hp7 : (upd H6 pl (.lst (nm3.map V.str))) pl = some (.lst (nm3.map V.str)) := upd_same
          have f7 := f6.put (o := .lst (nm3.map V.str)) (f6.ne hpl)
          have hplp : pl ≠ p := (f6.ne hpl).symm
          have b7 := (b05.trans b6).then s67
          generalize (upd H6 pl (.lst (nm3.map V.str))) = H7 at s67 hp7 f7 b7 ⊢
          refine ⟨pl, rfl, ⟨_, SqL.of hp7⟩, fun D hD => lc_feed nm3 (ws_of nm3) hD f7 (fun z v H => ∃ (t : Addr) (c : Int), v = .ref t ∧ H t = some (.tup [.str z, .int c]) ∧ 1 ≤ c ∧ c ≤ 8) (by decide) (fun H8 b8 => SqL.of (b8 _ _ hplp hp7)) ?_ ?_⟩
          · rintro i z x H8 H9 hz b8 f8 ⟨acc, hacc⟩ ⟨rfl, hx⟩ R hR
            obtain rfl := at_txt hz hx
            refine ⟨rfl, _, rfl, _, rfl, p, 4, rfl, f8, by decide, by decide, fun r9 H10 hr9 b10 f10 => ⟨5, (r9 : Int), rfl, rfl, (by show 2 ≤ sizeLine; decide), fun t ht => ?_⟩⟩
            have hDp : D ≠ p := (f7.ne hD).symm
            refine hR (.ref t) _ (b10.then (same_new ht)) (f10.put (f10.ne ht)) fun H11 b11 => ⟨t, _, rfl, b11 t _ (f10.ne ht).symm (ne_of_none (b10 _ _ hDp hacc) ht).symm upd_same, by omega, by omega⟩
          · intro H8 xs b8 f8 hL hlen hpr
            obtain ⟨qs, rfl, eqs, hqs⟩ := trip_of nm3 xs hlen hpr
            have bH8 := b7.trans b8
            refine ⟨D, qs.map (·.1), qs.map (fun q => (Sum.inr q.2.1, V.int (q.2.2 : Int))), rfl, SqL.of (by rw [hL, List.map_map]; rfl), paired_map qs fun q hq => SqT.of (hqs q hq).1, fun d hd => ?_⟩
            have ekv : mergeK [] (qs.map (fun q => ((Sum.inr q.2.1, V.int (q.2.2 : Int)) : Key × V))) = cellKv (qs.map fun q => q.2) := by
              rw [merge_nodup]
              · unfold cellKv
                rw [List.map_map]
                rfl
              · rw [List.nil_append, List.map_map]
                have : (qs.map fun q => q.2.1).map (Sum.inr : Str → Key) = qs.map (Prod.fst ∘ fun q => ((Sum.inr q.2.1, V.int (q.2.2 : Int)) : Key × V)) := by rw [List.map_map]; rfl
                rw [← this, eqs]
                exact nm3_ok.1.map _ fun _ _ h e => h (Sum.inr.inj e)
            rw [ekv]
            have ql : qs.length = 6 := by
              have := congrArg List.length eqs
              rw [List.length_map] at this
              exact this
            have gq : GoodCs (qs.map fun q => q.2) := by
              refine ⟨fun e => ?_, by rw [List.length_map]; omega, fun c hc => ?_, fun c hc => ?_, by rw [List.map_map, show (qs.map (Prod.fst ∘ fun q : Addr × Str × Nat => q.2)) = nm3 from eqs]; exact nm3_ok.1⟩
              · have := congrArg List.length e
                rw [List.length_map, List.length_nil] at this
                omega
              · obtain ⟨q, hq, rfl⟩ := List.mem_map.mp hc
                refine nm3_ok.2 q.2.1 ?_
                rw [← eqs]
                exact List.mem_map_of_mem (f := fun q : Addr × Str × Nat => q.2.1) hq
              · obtain ⟨q, hq, rfl⟩ := List.mem_map.mp hc
                exact (hqs q hq).2
            refine ⟨(by show 2 ≤ sizeLine; decide), fun tt htt => ⟨tt, _, rfl, SqT.of upd_same, rfl, _, _, rfl, _, _, rfl, rfl, ?_⟩⟩
            exact ⟨d, _, 13, _, _, _, _, _, _, _, _, rfl, (bH8.then (same_new hd)).then (same_new htt), same_new htt _ _ upd_same, gq, by decide, by decide⟩
        · rw [decide_eq_false h0]
          exact iteF ⟨d0, cs0, r0, _, _, _, _, _, _, _, _, rfl, b05.trans b6, b6 _ _ (dp f5 hd5) hd5, g0, r01, r032⟩
      · rintro σ H6 ⟨d, cs, r, v4, v6, v7, v8, v9, v10, v11, v12, rfl, b6, hd6, g, r1, r32⟩
        have s16 : Same H1 H6 := b6.same sf hp0
        have hS6 := Vf.SqL.ext hS1 (LamX.ExtN.of s16)
        have tb6 := tb1.ext s16
        have lw := allW_len g r
        have gw : ∀ w ∈ allW cs r, GoodLs w := fun w hw => way_good g hw
        refine ⟨_, rfl, _, _, rfl, repr_cells hd6 g, ?_⟩
        refine ⟨_, rfl, _, rfl, d, cs, r, rfl, hd6, g, fun l es H7 s7 due eq7 => ?_⟩
        have les : es.length ≤ 720 := by
          have := congrArg List.length eq7
          rw [List.length_map] at this
          omega
        refine ⟨l, rfl, ⟨_, SqL.of due.at_⟩, fun D hD => lc_mp es (wr_of es) hD (fun e => V.ref e.2.1) (by omega) (fun H5 s5 => SqL.of (s5 _ _ due.at_)) ?_ ?_⟩
        · rintro j e x H8 H9 hj s8 ⟨rfl, hx⟩ R hR
          obtain rfl := at_ref hj hx
          exact ⟨e.1, _, rfl, SqT.of (s8 _ _ (due.each e (List.mem_of_getElem? hj)).1), rfl, _, _, rfl, _, _, rfl, rfl, rfl, _, rfl, hR _ (Same.refl _)⟩
        intro H8 s8 hL8
        have s68 := s7.trans s8
        have df8 : FoundAt H8 D (es.map (·.2)) := ⟨by rw [hL8, List.map_map]; rfl, fun e he => by
          obtain ⟨e', he', rfl⟩ := List.mem_map.mp he
          exact (due.each e' he').2.same s8⟩
        have ew : (es.map (·.2)).map (fun e => e.2.map Prod.snd) = allW cs r := by rw [← eq7, List.map_map]; rfl
        have ldf : (es.map (·.2)).length ≤ 720 := by rw [List.length_map]; exact les
        generalize (es.map (·.2)) = dl at df8 ew ldf
        refine ⟨_, rfl, _, rfl, d, cs, r, rfl, s68 _ _ hd6, g, r1, r32, tb6.ext s68, fun l2 bs H9 e9 T9 lays eb => ?_⟩
        have e69 : LamX.ExtN H6 H9 := (LamX.ExtN.of s68).trans e9
        have hd9 : H9 d = some (.dK (cellKv cs)) := e69 _ _ hd6 (by intro ps z; cases z)
        have hS9 := Vf.SqL.ext hS6 e69
        have df9 := df8.ext e9
        have lb : bs.length ≤ 720 := by
          have := congrArg List.length eb
          rw [List.length_map] at this
          omega
        refine ⟨_, rfl, _, _, _, _, true, rfl, .ty _, .base (.lst lays.at_), kit_ty (by decide +kernel), _, rfl, iteF ?_⟩
        refine ⟨_, rfl, _, _, rfl, repr_cells hd9 g, _, rfl, rfl, _, rfl, ?_⟩
        rw [decide_eq_true (p := V.str (PyData.dict (cellD cs)).shown = V.str (PyData.dict (cellD cs)).shown) rfl]
        refine iteF ?_
        refine ⟨_, rfl, l2, rfl, ⟨_, SqL.of lays.at_⟩, fun D3 hD3 => lc_ad bs (wr_of bs) hD3 (fun b v H => ∃ t, v = .ref t ∧ ∃ qs, LinesAt H t qs ∧ qs.map Prod.snd = b.2) (by omega) (fun H5 s5 => SqL.of (s5 _ _ lays.at_)) ?_ ?_⟩
        · rintro j b x H10' H10 hj s10 ⟨acc, hacc⟩ ⟨rfl, hx⟩ R hR
          obtain rfl := at_ref hj hx
          obtain ⟨sd, nd, lay⟩ := lays.each b (List.mem_of_getElem? hj)
          obtain ⟨dx, t, qs, h1, h2, h3, h4, h5⟩ := lay.same s10
          exact ⟨rfl, _, rfl, b.1, C, dx, _, _, rfl, h1, TL.cl, TL.nL, lk_lines, hR _ _ (Same.refl _) fun H11 b11 => ⟨t, rfl, qs, h4.off hacc b11, h5⟩⟩
        intro H10 xs s10 hL10 hlen hpr
        obtain ⟨ps, rfl, eps, hps⟩ := refs_of (Pr := fun t (b : Addr × List (List Str)) H => ∃ qs, LinesAt H t qs ∧ qs.map Prod.snd = b.2) bs xs hlen hpr
        obtain ⟨fs, ef1, ef2, ef3⟩ := lines_of hps
        have fw : fs.map (fun e => e.2.map Prod.snd) = allW cs r := by
          rw [ef3, ← eb, ← eps, List.map_map]
          rfl
        have lfs : fs.length ≤ 720 := by
          have := congrArg List.length fw
          rw [List.length_map] at this
          omega
        have df10 := df9.same s10
        have R1 := repr_ways (K := K) ⟨by rw [hL10, ← ef1], ef2⟩ lfs (by rw [fw]; exact gw) (H := H10) (l := D3)
        have R2 := repr_ways (K := K) df10 ldf (by rw [ew]; exact gw)
        rw [fw] at R1
        rw [ew] at R2
        refine ⟨_, _, rfl, R1, _, rfl, _, _, rfl, R2, rfl, _, rfl, ?_⟩
        rw [decide_eq_true (p := V.str (PyData.list ((allW cs r).map waD)).shown = V.str (PyData.list ((allW cs r).map waD)).shown) rfl]
        refine iteF ?_
        have lays10 := lays.same s10
        have hd10 := s10 _ _ hd9
        refine ⟨_, rfl, _, rfl, l2, _, rfl, SqL.of lays10.at_, fun t1 ht1 => ⟨_, rfl, 2, rfl, _, rfl, l2, _, rfl, SqL.of (same_new ht1 _ _ lays10.at_), fun t2 ht2 => ?_⟩⟩
        have m1 : ∀ y ∈ cutV (bs.map fun b => V.ref b.1) none (some 3), y ∈ bs.map fun b => V.ref b.1 := fun y h => mem_cut h
        have m2 : ∀ y ∈ cutV (bs.map fun b => V.ref b.1) (some (-2)) none, y ∈ bs.map fun b => V.ref b.1 := fun y h => mem_cut h
        have c1 := cutV_length (bs.map fun b => V.ref b.1) none (some 3)
        have c2 := cutV_length (bs.map fun b => V.ref b.1) (some (-2)) none
        rw [List.length_map] at c1 c2
        refine ⟨t1, t2, _, _, rfl, rfl, same_new ht2 _ _ upd_same, upd_same, by rw [sizeLine_eq]; exact Nat.le_trans (Nat.add_le_add c1 c2) (by omega), fun t3 ht3 => ?_⟩
        have s11 := (same_new (o := .lst (cutV (bs.map fun b => V.ref b.1) none (some 3))) ht1).trans ((same_new (o := .lst (cutV (bs.map fun b => V.ref b.1) (some (-2)) none)) ht2).trans (same_new (o := .lst (cutV (bs.map fun b => V.ref b.1) none (some 3) ++ cutV (bs.map fun b => V.ref b.1) (some (-2)) none)) ht3))
        have h311 : (upd (upd (upd H10 t1 (.lst (cutV (bs.map fun b => V.ref b.1) none (some 3)))) t2 (.lst (cutV (bs.map fun b => V.ref b.1) (some (-2)) none))) t3 (.lst (cutV (bs.map fun b => V.ref b.1) none (some 3) ++ cutV (bs.map fun b => V.ref b.1) (some (-2)) none))) t3 = some (.lst (cutV (bs.map fun b => V.ref b.1) none (some 3) ++ cutV (bs.map fun b => V.ref b.1) (some (-2)) none)) := upd_same
        have mem : ∀ y ∈ cutV (bs.map fun b => V.ref b.1) none (some 3) ++ cutV (bs.map fun b => V.ref b.1) (some (-2)) none, ∃ b ∈ bs, y = V.ref b.1 := fun y hy => by
          have hm : y ∈ bs.map fun b => V.ref b.1 := (List.mem_append.mp hy).elim (m1 y) (m2 y)
          obtain ⟨b, hb, e⟩ := List.mem_map.mp hm
          exact ⟨b, hb, e.symm⟩
        generalize (cutV (bs.map fun b => V.ref b.1) none (some 3) ++ cutV (bs.map fun b => V.ref b.1) (some (-2)) none) = zs at s11 h311 mem ⊢
        generalize (upd (upd (upd H10 t1 (.lst (cutV (bs.map fun b => V.ref b.1) none (some 3)))) t2 (.lst (cutV (bs.map fun b => V.ref b.1) (some (-2)) none))) t3 (.lst zs)) = H11 at s11 h311 ⊢
        have lays11 := lays10.same s11
        have hd11 := s11 _ _ hd10
        refine ⟨t3, rfl, ⟨_, SqL.of h311⟩, for_it (walk_list (K := K) (a := t3) (xs := zs)) (fun j σ H' => ∃ v9 v10 v11 v12, σ = [some (.ref a), some (.int (0 + (i : Int))), some (.ref p), some (.ref d), v4, some (.int (r : Int)), some (.str (PyData.dict (cellD cs)).shown), some (.ref D), some (.ref l2), v9, v10, v11, v12] ∧ Same H11 H')
          ⟨_, _, _, _, rfl, Same.refl _⟩ (fun j σ H' _ ⟨_, _, _, _, _, s⟩ => SqL.of (s _ _ h311)) ?_ ?_⟩
        · rintro j y σ H12' H12 hj ⟨v9, v10, v11, v12, rfl, s12⟩ ⟨rfl, hy⟩
          obtain ⟨b, hb, rfl⟩ := mem y (List.mem_of_getElem? hy)
          obtain ⟨sd, nd, lay⟩ := lays11.each b hb
          have lay12 := lay.same s12
          obtain ⟨dx, t, qs, h1, h2, h3, h4, h5⟩ := id lay12
          have hbw : b.2 ∈ allW cs r := by rw [← eb]; exact List.mem_map_of_mem hb
          have pb := way_part g hbw
          have eflat : qs.flatMap Prod.snd = b.2.flatten := by rw [← h5]; exact List.flatMap_def
          refine ⟨_, rfl, _, rfl, _, rfl, _, rfl, b.1, C, dx, _, _, rfl, h1, TL.cl, TL.nL, lk_lines, b.1, sd, nd, d, t, cs, r, qs, rfl, by rw [h5]; exact lay12, s12 _ _ hd11, g, by omega, h4, fun q hq => pb.ne _ (by rw [← h5]; exact List.mem_map_of_mem hq), ?_, ?_, fun H13 s13 => ⟨_, rfl, iteF ?_⟩⟩
          · rw [eflat]
            exact pb.perm.trans (srt_perm _)
          · unfold linesOf
            rw [show (qs.map fun p => srt p.2) = b.2.map srt from by rw [← h5, List.map_map]; rfl, h5]
            exact ord_part pb
          · exact ⟨_, _, _, _, rfl, s12.trans s13⟩
        · rintro σ H12 ⟨v9, v10, v11, v12, rfl, s12⟩
          have s912 := s10.trans (s11.trans s12)
          have lays12 := lays11.same s12
          refine ⟨_, rfl, .inl ⟨rfl, _, SqL.of lays12.at_⟩, l2, _, rfl, rfl, lays12.at_, ?_⟩
          have hS13 := SqL.cleared (Vf.SqL.ext hS9 (LamX.ExtN.of s912)) lays12.at_
          have T13 := Tabs.put (ys := []) (T9.ext s912) lays12.at_
          have hd13 : (upd H12 l2 (.lst [])) d = some (.dK (cellKv cs)) := by
            rw [upd_ne (ne_of (s912 _ _ hd9) lays12.at_ (by intro z; cases z))]
            exact s912 _ _ hd9
          have df12 := df9.same s912
          have hD13 : (upd H12 l2 (.lst [])) D = some (.lst (dl.map fun e => V.ref e.1)) := by
            by_cases e : D = l2
            · have h1 := df12.at_
              rw [e, lays12.at_] at h1
              have h2 : (bs.map fun b => V.ref b.1) = dl.map fun e => V.ref e.1 := HO.lst.inj (Option.some.inj h1)
              cases dl with
              | nil =>
                rw [e, upd_same]
                rfl
              | cons e0 dl =>
                cases bs with
                | nil => simp at h2
                | cons b0 bs =>
                  simp only [List.map_cons, List.cons.injEq, V.ref.injEq] at h2
                  obtain ⟨sd, nd, lay⟩ := lays12.each b0 List.mem_cons_self
                  obtain ⟨dx, t, qs, g1, _⟩ := lay
                  have g2 := (df12.each e0 List.mem_cons_self).1
                  rw [← h2.1, g1] at g2
                  cases g2
            · rw [upd_ne e]
              exact df12.at_
          generalize (upd H12 l2 (.lst [])) = H13 at hS13 T13 hd13 hD13 ⊢
          refine ⟨_, rfl, _, rfl, d, cs, r, rfl, hd13, g, r1, r32, T13, fun l3 bs3 H14 e14 T14 lays3 eb3 => ?_⟩
          have hD14 := e14 _ _ hD13 (by intro ps z; cases z)
          refine ⟨l3, _, rfl, .inl (SqL.of lays3.at_), _, rfl, D, _, rfl, .inl (SqL.of hD14), rfl, _, rfl, ?_⟩
          have el : (bs3.map fun b => V.ref b.1).length = (dl.map fun e => V.ref e.1).length := by
            have h1 := congrArg List.length eb3
            have h2 := congrArg List.length ew
            rw [List.length_map] at h1 h2
            rw [List.length_map, List.length_map]
            omega
          rw [decide_eq_true (p := V.int (((bs3.map fun b => V.ref b.1).length : Nat) : Int) = V.int (((dl.map fun e => V.ref e.1).length : Nat) : Int)) (by rw [el])]
          refine iteF ?_
          exact ⟨_, _, _, _, _, _, _, _, _, _, _, _, rfl, Vf.SqL.ext hS13 e14, T14⟩
    · rintro σ H4 ⟨v1, v2, v3, v4, v5, v6, v7, v8, v9, v10, v11, v12, rfl, _⟩
      exact k _
end
end Vf

set_option maxRecDepth 100000
set_option maxHeartbeats 16000000
namespace Vf
open PySem PySem.Spec PyProof.Rows L2
theorem all_mk {l : PySem.W.OpenLaw} {w : World} {K : PySem.W.Frag} {h : Heap} {mg : Str → Option Value} {fa C : Addr} (X : K.In h) (G : h.Ns mainGlobals mg) (hfa : mg "law" = some (.ref fa))
    {f1 f2 f3 f4 f5 f6 f7 f8 f9 f10 f11 f12 f13 f14 f15 f16 f17 f18 f19 f20 f21 f22 : Addr} {od1 an1 od2 an2 od3 an3 od4 an4 od5 an5 od6 an6 od7 an7 od8 an8 od9 an9 od10 an10 od11 an11 od12 an12 od13 an13 od14 an14 od15 an15 od16 an16 od17 an17 od18 an18 od19 an19 od20 an20 od21 an21 od22 an22 : Option Addr} {sl1 sl2 sl3 sl4 sl5 sl6 sl7 sl8 sl9 sl10 sl11 sl12 sl13 sl14 sl15 sl16 sl17 sl18 sl19 sl20 sl21 sl22 : Array (Option Value)} {oc1 kV1 dc1 pm1 cd1 cx1 oc2 kV2 dc2 pm2 cd2 cx2 oc3 kV3 dc3 pm3 cd3 cx3 oc4 kV4 dc4 pm4 cd4 cx4 oc5 kV5 dc5 pm5 cd5 cx5 oc6 kV6 dc6 pm6 cd6 cx6 oc7 kV7 dc7 pm7 cd7 cx7 oc8 kV8 dc8 pm8 cd8 cx8 oc9 kV9 dc9 pm9 cd9 cx9 oc10 kV10 dc10 pm10 cd10 cx10 oc11 kV11 dc11 pm11 cd11 cx11 oc12 kV12 dc12 pm12 cd12 cx12 oc13 kV13 dc13 pm13 cd13 cx13 oc14 kV14 dc14 pm14 cd14 cx14 oc15 kV15 dc15 pm15 cd15 cx15 oc16 kV16 dc16 pm16 cd16 cx16 oc17 kV17 dc17 pm17 cd17 cx17 oc18 kV18 dc18 pm18 cd18 cx18 oc19 kV19 dc19 pm19 cd19 cx19 oc20 kV20 dc20 pm20 cd20 cx20 oc21 kV21 dc21 pm21 cd21 cx21 oc22 kV22 dc22 pm22 cd22 cx22 : Value} {t1 t2 t3 t4 : Tok}
    {cT Tb : Addr} {oT : Value} {odT : Option Addr} {vsT : Array Value} {slT : Array (Option Value)}
    (aC : PySem.W.nsIn K mainGlobals "Layout" = some (some (.ref C))) (a1 : PySem.W.nsIn K mainGlobals "is_integer" = some (some (.ref f1))) (l1 : K.lookup f1 = some ⟨oc1, od1, .func (PySem.W.fnOf "is_integer" "is_integer" (defArgs s_is_integer) (defBody s_is_integer) (defScope s_is_integer) .none kV1 dc1 pm1 an1 cd1 cx1), sl1⟩) (c1 : PySem.W.codeIn K cd1 "is_integer" = true)
    (k1 : PySem.W.keepIn K (.ref f1) = true) (a2 : PySem.W.nsIn K mainGlobals "is_integer_within" = some (some (.ref f2))) (l2 : K.lookup f2 = some ⟨oc2, od2, .func (PySem.W.fnOf "is_integer_within" "is_integer_within" (defArgs s_is_integer_within) (defBody s_is_integer_within) (defScope s_is_integer_within) .none kV2 dc2 pm2 an2 cd2 cx2), sl2⟩) (c2 : PySem.W.codeIn K cd2 "is_integer_within" = true)
    (k2 : PySem.W.keepIn K (.ref f2) = true) (a3 : PySem.W.nsIn K mainGlobals "is_name" = some (some (.ref f3))) (l3 : K.lookup f3 = some ⟨oc3, od3, .func (PySem.W.fnOf "is_name" "is_name" (defArgs s_is_name) (defBody s_is_name) (defScope s_is_name) .none kV3 dc3 pm3 an3 cd3 cx3), sl3⟩) (c3 : PySem.W.codeIn K cd3 "is_name" = true)
    (k3 : PySem.W.keepIn K (.ref f3) = true) (a4 : PySem.W.nsIn K mainGlobals "all_layouts" = some (some (.ref f4))) (l4 : K.lookup f4 = some ⟨oc4, od4, .func (PySem.W.fnOf "all_layouts" "all_layouts" (defArgs s_all_layouts) (defBody s_all_layouts) (defScope s_all_layouts) .none kV4 dc4 pm4 an4 cd4 cx4), sl4⟩) (c4 : PySem.W.codeIn K cd4 "all_layouts" = true)
    (k4 : PySem.W.keepIn K (.ref f4) = true) (a5 : PySem.W.nsIn K mainGlobals "_check_cells" = some (some (.ref f5))) (l5 : K.lookup f5 = some ⟨oc5, od5, .func (PySem.W.fnOf "_check_cells" "_check_cells" (defArgs s_check_cells) (defBody s_check_cells) (defScope s_check_cells) .none kV5 dc5 pm5 an5 cd5 cx5), sl5⟩) (c5 : PySem.W.codeIn K cd5 "_check_cells" = true)
    (k5 : PySem.W.keepIn K (.ref f5) = true) (a6 : PySem.W.nsIn K mainGlobals "_check_room" = some (some (.ref f6))) (l6 : K.lookup f6 = some ⟨oc6, od6, .func (PySem.W.fnOf "_check_room" "_check_room" (defArgs s_check_room) (defBody s_check_room) (defScope s_check_room) .none kV6 dc6 pm6 an6 cd6 cx6), sl6⟩) (c6 : PySem.W.codeIn K cd6 "_check_room" = true)
    (k6 : PySem.W.keepIn K (.ref f6) = true) (a7 : PySem.W.nsIn K mainGlobals "_are_lines" = some (some (.ref f7))) (l7 : K.lookup f7 = some ⟨oc7, od7, .func (PySem.W.fnOf "_are_lines" "_are_lines" (defArgs s_are_lines) (defBody s_are_lines) (defScope s_are_lines) .none kV7 dc7 pm7 an7 cd7 cx7), sl7⟩) (c7 : PySem.W.codeIn K cd7 "_are_lines" = true)
    (k7 : PySem.W.keepIn K (.ref f7) = true) (a8 : PySem.W.nsIn K mainGlobals "_is_line" = some (some (.ref f8))) (l8 : K.lookup f8 = some ⟨oc8, od8, .func (PySem.W.fnOf "_is_line" "_is_line" (defArgs s_is_line) (defBody s_is_line) (defScope s_is_line) .none kV8 dc8 pm8 an8 cd8 cx8), sl8⟩) (c8 : PySem.W.codeIn K cd8 "_is_line" = true)
    (k8 : PySem.W.keepIn K (.ref f8) = true) (a9 : PySem.W.nsIn K mainGlobals "_filled" = some (some (.ref f9))) (l9 : K.lookup f9 = some ⟨oc9, od9, .func (PySem.W.fnOf "_filled" "_filled" (defArgs s_filled) (defBody s_filled) (defScope s_filled) .none kV9 dc9 pm9 an9 cd9 cx9), sl9⟩) (c9 : PySem.W.codeIn K cd9 "_filled" = true)
    (k9 : PySem.W.keepIn K (.ref f9) = true) (a10 : PySem.W.nsIn K mainGlobals "_with_cell" = some (some (.ref f10))) (l10 : K.lookup f10 = some ⟨oc10, od10, .func (PySem.W.fnOf "_with_cell" "_with_cell" (defArgs s_with_cell) (defBody s_with_cell) (defScope s_with_cell) .none kV10 dc10 pm10 an10 cd10 cx10), sl10⟩) (c10 : PySem.W.codeIn K cd10 "_with_cell" = true)
    (k10 : PySem.W.keepIn K (.ref f10) = true) (a11 : PySem.W.nsIn K mainGlobals "_law_feed" = some (some (.ref f11))) (l11 : K.lookup f11 = some ⟨oc11, od11, .func (PySem.W.fnOf "_law_feed" "_law_feed" (defArgs s_law_feed) (defBody s_law_feed) (defScope s_law_feed) .none kV11 dc11 pm11 an11 cd11 cx11), sl11⟩) (c11 : PySem.W.codeIn K cd11 "_law_feed" = true)
    (k11 : PySem.W.keepIn K (.ref f11) = true) (a12 : PySem.W.nsIn K mainGlobals "_law_take" = some (some (.ref f12))) (l12 : K.lookup f12 = some ⟨oc12, od12, .func (PySem.W.fnOf "_law_take" "_law_take" (defArgs s_law_take) (defBody s_law_take) (defScope s_law_take) .none kV12 dc12 pm12 an12 cd12 cx12), sl12⟩) (c12 : PySem.W.codeIn K cd12 "_law_take" = true)
    (k12 : PySem.W.keepIn K (.ref f12) = true) (a13 : PySem.W.nsIn K mainGlobals "_law_pick" = some (some (.ref f13))) (l13 : K.lookup f13 = some ⟨oc13, od13, .func (PySem.W.fnOf "_law_pick" "_law_pick" (defArgs s_law_pick) (defBody s_law_pick) (defScope s_law_pick) .none kV13 dc13 pm13 an13 cd13 cx13), sl13⟩) (c13 : PySem.W.codeIn K cd13 "_law_pick" = true)
    (k13 : PySem.W.keepIn K (.ref f13) = true) (a14 : PySem.W.nsIn K mainGlobals "_law_word" = some (some (.ref f14))) (l14 : K.lookup f14 = some ⟨oc14, od14, .func (PySem.W.fnOf "_law_word" "_law_word" (defArgs s_law_word) (defBody s_law_word) (defScope s_law_word) .none kV14 dc14 pm14 an14 cd14 cx14), sl14⟩) (c14 : PySem.W.codeIn K cd14 "_law_word" = true)
    (k14 : PySem.W.keepIn K (.ref f14) = true) (a15 : PySem.W.nsIn K mainGlobals "_law_cells" = some (some (.ref f15))) (l15 : K.lookup f15 = some ⟨oc15, od15, .func (PySem.W.fnOf "_law_cells" "_law_cells" (defArgs s_law_cells) (defBody s_law_cells) (defScope s_law_cells) .none kV15 dc15 pm15 an15 cd15 cx15), sl15⟩) (c15 : PySem.W.codeIn K cd15 "_law_cells" = true)
    (k15 : PySem.W.keepIn K (.ref f15) = true) (a16 : PySem.W.nsIn K mainGlobals "_law_order" = some (some (.ref f16))) (l16 : K.lookup f16 = some ⟨oc16, od16, .func (PySem.W.fnOf "_law_order" "_law_order" (defArgs s_law_order) (defBody s_law_order) (defScope s_law_order) .none kV16 dc16 pm16 an16 cd16 cx16), sl16⟩) (c16 : PySem.W.codeIn K cd16 "_law_order" = true)
    (k16 : PySem.W.keepIn K (.ref f16) = true) (a17 : PySem.W.nsIn K mainGlobals "_law_is" = some (some (.ref f17))) (l17 : K.lookup f17 = some ⟨oc17, od17, .func (PySem.W.fnOf "_law_is" "_law_is" (defArgs s_law_is) (defBody s_law_is) (defScope s_law_is) .none kV17 dc17 pm17 an17 cd17 cx17), sl17⟩) (c17 : PySem.W.codeIn K cd17 "_law_is" = true)
    (k17 : PySem.W.keepIn K (.ref f17) = true) (a18 : PySem.W.nsIn K mainGlobals "_law_every" = some (some (.ref f18))) (l18 : K.lookup f18 = some ⟨oc18, od18, .func (PySem.W.fnOf "_law_every" "_law_every" (defArgs s_law_every) (defBody s_law_every) (defScope s_law_every) .none kV18 dc18 pm18 an18 cd18 cx18), sl18⟩) (c18 : PySem.W.codeIn K cd18 "_law_every" = true)
    (k18 : PySem.W.keepIn K (.ref f18) = true) (a19 : PySem.W.nsIn K mainGlobals "law" = some (some (.ref f19))) (l19 : K.lookup f19 = some ⟨oc19, od19, .func (PySem.W.fnOf "law" "law" (defArgs s_law) (defBody s_law) (defScope s_law) .none kV19 dc19 pm19 an19 cd19 cx19), sl19⟩) (c19 : PySem.W.codeIn K cd19 "law" = true)
    (k19 : PySem.W.keepIn K (.ref f19) = true) (a20 : PySem.W.findIn K (.ref C) "__init__" = some (some (.ref f20))) (i20 : PySem.W.isFn K (.ref f20) = true) (l20 : K.lookup f20 = some ⟨oc20, od20, .func (PySem.W.fnOf "__init__" "Layout.__init__" (defArgs s_Layout_init) (defBody s_Layout_init) (defScope s_Layout_init) .none kV20 dc20 pm20 an20 cd20 cx20), sl20⟩)
    (c20 : PySem.W.codeIn K cd20 "Layout.__init__" = true) (k20 : PySem.W.keepIn K (.ref f20) = true) (a21 : PySem.W.findIn K (.ref C) "cells" = some (some (.ref f21))) (i21 : PySem.W.isFn K (.ref f21) = true)
    (l21 : K.lookup f21 = some ⟨oc21, od21, .func (PySem.W.fnOf "cells" "Layout.cells" (defArgs s_Layout_cells) (defBody s_Layout_cells) (defScope s_Layout_cells) .none kV21 dc21 pm21 an21 cd21 cx21), sl21⟩) (c21 : PySem.W.codeIn K cd21 "Layout.cells" = true) (k21 : PySem.W.keepIn K (.ref f21) = true) (a22 : PySem.W.findIn K (.ref C) "line_of" = some (some (.ref f22)))
    (i22 : PySem.W.isFn K (.ref f22) = true) (l22 : K.lookup f22 = some ⟨oc22, od22, .func (PySem.W.fnOf "line_of" "Layout.line_of" (defArgs s_Layout_line_of) (defBody s_Layout_line_of) (defScope s_Layout_line_of) .none kV22 dc22 pm22 an22 cd22 cx22), sl22⟩) (c22 : PySem.W.codeIn K cd22 "Layout.line_of" = true) (k22 : PySem.W.keepIn K (.ref f22) = true)
    (pgC : PySem.W.plainGet K C Str.empty = true) (hdC : PySem.W.hasDictIn K C = true) (poC : PySem.W.plainOver K C = true) (saC : PySem.W.findIn K (.ref C) "__setattr__" = some (some (.builtin "object.__setattr__")))
    (mkC : PySem.W.makesIn K C = true) (kcC : PySem.W.keepIn K (.ref C) = true) (nC0 : PySem.W.findIn K (.ref C) "_sizes" = some none) (nC1 : PySem.W.findIn K (.ref C) "room" = some none)
    (nC2 : PySem.W.findIn K (.ref C) "lines" = some none) (nC3 : PySem.W.findIn K (.ref C) "_numbers" = some none) (tC : cd4 = .ref cT) (tL : K.lookup cT = some ⟨oT, odT, .fields vsT, slT⟩)
    (tV : vsT[11]? = some (.ref Tb)) (tH : PySem.W.codeHdIn K cT Tb = true) (tN : K.lookup Tb = none) (tM : h.get? Tb = some { cls := .none, data := .fields #[] })
    (ct1 : PySem.W.nsIn K mainGlobals "LONGEST_NAME" = some (some (.int 8 t1))) (ct2 : PySem.W.nsIn K mainGlobals "MOST_CELLS" = some (some (.int 6 t2))) (ct3 : PySem.W.nsIn K mainGlobals "LARGEST_SIZE" = some (some (.int 8 t3))) (ct4 : PySem.W.nsIn K mainGlobals "LARGEST_ROOM" = some (some (.int 32 t4)))
    (z1 : PySem.W.nsIn K mainGlobals "len" = some none) (z2 : PySem.W.nsIn K mainGlobals "isinstance" = some none) (z3 : PySem.W.nsIn K mainGlobals "all" = some none) (z4 : PySem.W.nsIn K mainGlobals "str" = some none)
    (z5 : PySem.W.nsIn K mainGlobals "int" = some none) (z6 : PySem.W.nsIn K mainGlobals "bool" = some none) (z7 : PySem.W.nsIn K mainGlobals "dict" = some none) (z8 : PySem.W.nsIn K mainGlobals "list" = some none)
    (z9 : PySem.W.nsIn K mainGlobals "sum" = some none) (z10 : PySem.W.nsIn K mainGlobals "sorted" = some none) (z11 : PySem.W.nsIn K mainGlobals "tuple" = some none) (z12 : PySem.W.nsIn K mainGlobals "enumerate" = some none)
    (z13 : PySem.W.nsIn K mainGlobals "max" = some none) (z14 : PySem.W.nsIn K mainGlobals "abs" = some none) (z15 : PySem.W.nsIn K mainGlobals "range" = some none) (z16 : PySem.W.nsIn K mainGlobals "set" = some none)
    (z17 : PySem.W.nsIn K mainGlobals "repr" = some none) (z18 : PySem.W.nsIn K mainGlobals "min" = some none) :
    ∃ (fd : FuncData) (c T : Addr), (∀ (s : Shared) (v : Value), BindsTo s fd ⟨[v], []⟩ [("script", v)]) ∧ h.get? T = some { cls := .none, data := .fields #[] } ∧ K.lookup T = none ∧ PySem.W.CodeHd h c T ∧ ∀ base : Heap, K.In base → base.Ns mainGlobals mg → LamX.TabB base mg c T → FnG l.prog w K mg base CX0 7 fa fd ["script"] (sp_law K T) := by
  have e := hfa.symm.trans (PySem.W.mg_of X G a19)
  cases e
  subst tC
  have F1 := fun_mk (st := s_is_integer) l1 c1 k1
  have b1 := F1.binds (ps := p_is_integer) fun _ _ _ _ _ _ us hl => match us, hl with | [_], _ => rfl
  have F2 := fun_mk (st := s_is_integer_within) l2 c2 k2
  have b2 := F2.binds (ps := p_is_integer_within) fun _ _ _ _ _ _ us hl => match us, hl with | [_, _, _], _ => rfl
  have F3 := fun_mk (st := s_is_name) l3 c3 k3
  have b3 := F3.binds (ps := p_is_name) fun _ _ _ _ _ _ us hl => match us, hl with | [_], _ => rfl
  have F4 := fun_mk (st := s_all_layouts) l4 c4 k4
  have b4 := F4.binds (ps := p_all_layouts) fun _ _ _ _ _ _ us hl => match us, hl with | [_, _], _ => rfl
  have F5 := fun_mk (st := s_check_cells) l5 c5 k5
  have b5 := F5.binds (ps := p_check_cells) fun _ _ _ _ _ _ us hl => match us, hl with | [_], _ => rfl
  have F6 := fun_mk (st := s_check_room) l6 c6 k6
  have b6 := F6.binds (ps := p_check_room) fun _ _ _ _ _ _ us hl => match us, hl with | [_], _ => rfl
  have F7 := fun_mk (st := s_are_lines) l7 c7 k7
  have b7 := F7.binds (ps := p_are_lines) fun _ _ _ _ _ _ us hl => match us, hl with | [_, _, _], _ => rfl
  have F8 := fun_mk (st := s_is_line) l8 c8 k8
  have b8 := F8.binds (ps := p_is_line) fun _ _ _ _ _ _ us hl => match us, hl with | [_, _, _], _ => rfl
  have F9 := fun_mk (st := s_filled) l9 c9 k9
  have b9 := F9.binds (ps := p_filled) fun _ _ _ _ _ _ us hl => match us, hl with | [_, _], _ => rfl
  have F10 := fun_mk (st := s_with_cell) l10 c10 k10
  have b10 := F10.binds (ps := p_with_cell) fun _ _ _ _ _ _ us hl => match us, hl with | [_, _, _, _], _ => rfl
  have F11 := fun_mk (st := s_law_feed) l11 c11 k11
  have b11 := F11.binds (ps := p_law_feed) fun _ _ _ _ _ _ us hl => match us, hl with | [_, _], _ => rfl
  have F12 := fun_mk (st := s_law_take) l12 c12 k12
  have b12 := F12.binds (ps := p_law_take) fun _ _ _ _ _ _ us hl => match us, hl with | [_, _], _ => rfl
  have F13 := fun_mk (st := s_law_pick) l13 c13 k13
  have b13 := F13.binds (ps := p_law_pick) fun _ _ _ _ _ _ us hl => match us, hl with | [_, _], _ => rfl
  have F14 := fun_mk (st := s_law_word) l14 c14 k14
  have b14 := F14.binds (ps := p_law_word) fun _ _ _ _ _ _ us hl => match us, hl with | [_], _ => rfl
  have F15 := fun_mk (st := s_law_cells) l15 c15 k15
  have b15 := F15.binds (ps := p_law_cells) fun _ _ _ _ _ _ us hl => match us, hl with | [_, _], _ => rfl
  have F16 := fun_mk (st := s_law_order) l16 c16 k16
  have b16 := F16.binds (ps := p_law_order) fun _ _ _ _ _ _ us hl => match us, hl with | [_], _ => rfl
  have F17 := fun_mk (st := s_law_is) l17 c17 k17
  have b17 := F17.binds (ps := p_law_is) fun _ _ _ _ _ _ us hl => match us, hl with | [_, _, _, _], _ => rfl
  have F18 := fun_mk (st := s_law_every) l18 c18 k18
  have b18 := F18.binds (ps := p_law_every) fun _ _ _ _ _ _ us hl => match us, hl with | [_, _], _ => rfl
  have F19 := fun_mk (st := s_law) l19 c19 k19
  have b19 := F19.binds (ps := p_law) fun _ _ _ _ _ _ us hl => match us, hl with | [_], _ => rfl
  have F20 := fun_mk (st := s_Layout_init) l20 c20 k20
  have b20 := F20.binds (ps := p_Layout_init) fun _ _ _ _ _ _ us hl => match us, hl with | [_, _, _, _], _ => rfl
  have F21 := fun_mk (st := s_Layout_cells) l21 c21 k21
  have b21 := F21.binds (ps := p_Layout_cells) fun _ _ _ _ _ _ us hl => match us, hl with | [_], _ => rfl
  have F22 := fun_mk (st := s_Layout_line_of) l22 c22 k22
  have b22 := F22.binds (ps := p_Layout_line_of) fun _ _ _ _ _ _ us hl => match us, hl with | [_, _], _ => rfl
  refine ⟨PySem.W.fnOf "law" "law" (defArgs s_law) (defBody s_law) (defScope s_law) .none kV19 dc19 pm19 an19 cd19 cx19, cT, Tb, fun s v => .of_eq rfl, tM, tN, PySem.W.codeHd_of_K X tH, fun base _ _ TB => ?_⟩
  have T : Txt0 K mg := ⟨(PySem.W.mg_none_of X G z1), (PySem.W.mg_none_of X G z2), (PySem.W.mg_none_of X G z3), (PySem.W.mg_none_of X G z4), (PySem.W.mg_none_of X G z5), (PySem.W.mg_none_of X G z6), (PySem.W.mg_none_of X G z7), (PySem.W.mg_none_of X G z8), (PySem.W.mg_none_of X G z9), ⟨t1, PySem.W.mg_of X G ct1⟩, ⟨t2, PySem.W.mg_of X G ct2⟩, ⟨t3, PySem.W.mg_of X G ct3⟩, ⟨t4, PySem.W.mg_of X G ct4⟩, (PySem.W.mg_none_of X G z10), (PySem.W.mg_none_of X G z11), (PySem.W.mg_none_of X G z12), (PySem.W.mg_none_of X G z13)⟩
  have TM : TxtM mg := ⟨(PySem.W.mg_none_of X G z14), (PySem.W.mg_none_of X G z15), (PySem.W.mg_none_of X G z16), (PySem.W.mg_none_of X G z17), (PySem.W.mg_none_of X G z18)⟩
  have TL : TxtL K mg C := ⟨⟨pgC, hdC, poC, saC⟩, nC0, nC1, nC2, nC3, PySem.W.mg_of X G aC⟩
  have G1 : OkF l.prog w K mg base CX0 "is_integer" p_is_integer 1 sp_is_int := ⟨f1, _, PySem.W.mg_of X G a1, k1, b1, ok_is_int F1 T⟩
  have G2 : OkF l.prog w K mg base CX0 "is_integer_within" p_is_integer_within 2 sp_within := ⟨f2, _, PySem.W.mg_of X G a2, k2, b2, ok_within F2 G1⟩
  have G3 : OkF l.prog w K mg base CX0 "is_name" p_is_name 1 sp_is_name := ⟨f3, _, PySem.W.mg_of X G a3, k3, b3, ok_is_name F3 T⟩
  have G4 : OkF l.prog w K mg base CX0 "_check_cells" p_check_cells 3 sp_check_cells := ⟨f5, _, PySem.W.mg_of X G a5, k5, b5, ok_check_cells F5 T G3 G2⟩
  have G5 : OkF l.prog w K mg base CX0 "_check_room" p_check_room 3 sp_check_room := ⟨f6, _, PySem.W.mg_of X G a6, k6, b6, ok_check_room F6 T G2⟩
  have G6 : OkF l.prog w K mg base CX0 "_filled" p_filled 1 (sp_filled K) := ⟨f9, _, PySem.W.mg_of X G a9, k9, b9, ok_filled F9 T⟩
  have G6T : OkF l.prog w K mg base CX0 "_filled" p_filled 1 (sp_filledT K) := ⟨f9, _, PySem.W.mg_of X G a9, k9, b9, ok_filledT F9 T⟩
  have G7 : OkF l.prog w K mg base CX0 "_is_line" p_is_line 2 sp_is_line := ⟨f8, _, PySem.W.mg_of X G a8, k8, b8, ok_is_line F8 T G6⟩
  have G8 : OkF l.prog w K mg base CX0 "_are_lines" p_are_lines 3 sp_are_lines := ⟨f7, _, PySem.W.mg_of X G a7, k7, b7, ok_are_lines F7 T G7⟩
  have G9 : OkF l.prog w K mg base CX0 "_with_cell" p_with_cell 2 (sp_with_cell K) := ⟨f10, _, PySem.W.mg_of X G a10, k10, b10, ok_with_cell F10 T G6T⟩
  have GI := ok_Layout_init (P := l.prog) (w := w) (base := base) F20 T TL G4 G5 G8
  have MK : Mk K C f20 := ⟨mkC, a20, i20, kcC⟩
  have M : LayM l.prog w K mg base C := ⟨⟨f21, _, ⟨a21, i21, k21⟩, ok_Layout_cells F21 T TL, b21⟩, ⟨f22, _, ⟨a22, i22, k22⟩, ok_Layout_line_of F22 T TL, b22⟩⟩
  have GA : OkF l.prog w K mg base CX0 "all_layouts" p_all_layouts 6 (sp_all_layouts C Tb) := ⟨f4, _, PySem.W.mg_of X G a4, k4, b4, ok_all_layouts F4 rfl TB T TL G4 G5 G9 MK GI b20⟩
  have G10 : OkF l.prog w K mg base CX0 "_law_feed" p_law_feed 1 (sp_law_feed K) := ⟨f11, _, PySem.W.mg_of X G a11, k11, b11, ok_law_feed F11 T TM⟩
  have G11 : OkF l.prog w K mg base CX0 "_law_take" p_law_take 1 sp_law_take := ⟨f12, _, PySem.W.mg_of X G a12, k12, b12, ok_law_take F12 T⟩
  have G12 : OkF l.prog w K mg base CX0 "_law_pick" p_law_pick 2 (sp_law_pick K) := ⟨f13, _, PySem.W.mg_of X G a13, k13, b13, ok_law_pick F13 T G11⟩
  have G13 : OkF l.prog w K mg base CX0 "_law_word" p_law_word 3 sp_law_word := ⟨f14, _, PySem.W.mg_of X G a14, k14, b14, ok_law_word F14 T TM G12⟩
  have G14 : OkF l.prog w K mg base CX0 "_law_cells" p_law_cells 4 sp_law_cells := ⟨f15, _, PySem.W.mg_of X G a15, k15, b15, ok_law_cells F15 T TM G11 G12 G13⟩
  have G15 : OkF l.prog w K mg base CX0 "_law_order" p_law_order 1 sp_law_order := ⟨f16, _, PySem.W.mg_of X G a16, k16, b16, ok_law_order F16 T⟩
  have G15T : OkF l.prog w K mg base CX0 "_law_order" p_law_order 1 sp_law_orderT := ⟨f16, _, PySem.W.mg_of X G a16, k16, b16, ok_law_orderT F16 T⟩
  have GE : OkF l.prog w K mg base CX0 "_law_every" p_law_every 2 sp_law_every := ⟨f18, _, PySem.W.mg_of X G a18, k18, b18, ok_law_every F18 T G15⟩
  have G16 : OkG l.prog w K mg base CX0 "_law_is" p_law_is 2 (sp_law_isT C) := ⟨f17, _, PySem.W.mg_of X G a17, k17, b17, ok_law_isT F17 T TM TL M G15T⟩
  exact ok_law F19 T TM TL G10 G14 G11 G12 GE GA G16
theorem walk {l : PySem.W.OpenLaw} {q : Program} {loose : List Str} {XP : (Str → Option Value) → Heap → Prop} {YP : World → Heap → Prop} {d : DefRec} {K : Params → PySem.W.Frag} (hn : l.most = some 63) (hdf : d.params.defaults = [])
    (hY : ∀ (w : World) (h : Heap), YP w h → (K w.params).In h)
    (F : ∀ (w : World) (mg : Str → Option Value) (fa : Addr) (h : Heap), YP w h → (K w.params).In h → h.Ns mainGlobals mg → mg d.name = some (.ref fa) →
      ∃ (fd : FuncData) (c T : Addr), (∀ (s : Shared) (u : Value), BindsTo s fd ⟨[u], []⟩ [("script", u)]) ∧ h.get? T = some { cls := .none, data := .fields #[] } ∧ (K w.params).lookup T = none ∧ PySem.W.CodeHd h c T ∧ ∀ base : Heap, (K w.params).In base → base.Ns mainGlobals mg → LamX.TabB base mg c T → FnG l.prog w (K w.params) mg base CX0 7 fa fd ["script"] (sp_law (K w.params) T)) :
    PySem.W.WalkO q loose XP YP l.row.toRowW d [] (fun f vs => PySem.call f vs) :=
  walk_tab (n := 63) (k := 7) (x := "script") (CX := fun _ => CX0) (sp := fun w T => sp_law (K w.params) T) hn (by decide) hdf ⟨rfl, by decide, by decide⟩ hY F (fun _ T H a ns hl hT hS => ⟨a, ns, rfl, hS, hl, fun p hp => by rw [List.mem_singleton.mp hp]; exact LamX.TabS.nil hT, fun _ => rfl⟩) fun _ _ _ _ _ z => z
end Vf

open PySem PySem.W PyProof.Rows
set_option maxRecDepth 100000 in
set_option maxHeartbeats 0 in
theorem PySem.Challenge.cw_sharedlines_k06_all_layouts_of_cells_holds : PySem.Challenge.rw_sharedlines_k06_all_layouts_of_cells.Holds := by
  w_on; o_law; km_head; (case hw => w_witness2)
  k_fill
  refine Vf.walk (l := PySem.Challenge.rw_sharedlines_k06_all_layouts_of_cells) rfl rfl (fun w h Y => PySem.W.km_in_of Y) ?F
  case F =>
    intro w mg fa h Y KX G hmg
    refine' Vf.all_mk KX G hmg ?aC ?a1 ?l1 ?c1 ?k1 ?a2 ?l2 ?c2 ?k2 ?a3 ?l3 ?c3 ?k3 ?a4 ?l4 ?c4 ?k4 ?a5 ?l5 ?c5 ?k5 ?a6 ?l6 ?c6 ?k6 ?a7 ?l7 ?c7 ?k7 ?a8 ?l8 ?c8 ?k8 ?a9 ?l9 ?c9 ?k9 ?a10 ?l10 ?c10 ?k10 ?a11 ?l11 ?c11 ?k11 ?a12 ?l12 ?c12 ?k12 ?a13 ?l13 ?c13 ?k13 ?a14 ?l14 ?c14 ?k14 ?a15 ?l15 ?c15 ?k15 ?a16 ?l16 ?c16 ?k16 ?a17 ?l17 ?c17 ?k17 ?a18 ?l18 ?c18 ?k18 ?a19 ?l19 ?c19 ?k19 ?a20 ?i20 ?l20 ?c20 ?k20 ?a21 ?i21 ?l21 ?c21 ?k21 ?a22 ?i22 ?l22 ?c22 ?k22 ?pgC ?hdC ?poC ?saC ?mkC ?kcC ?nC0 ?nC1 ?nC2 ?nC3 ?tC ?tL ?tV ?tH ?tN ?tM ?ct1 ?ct2 ?ct3 ?ct4 ?z1 ?z2 ?z3 ?z4 ?z5 ?z6 ?z7 ?z8 ?z9 ?z10 ?z11 ?z12 ?z13 ?z14 ?z15 ?z16 ?z17 ?z18
    (case aC => k_is); (case a1 => k_is); (case l1 => k_is); (case c1 => k_is); (case k1 => k_is); (case a2 => k_is)
    (case l2 => k_is); (case c2 => k_is); (case k2 => k_is); (case a3 => k_is); (case l3 => k_is); (case c3 => k_is)
    (case k3 => k_is); (case a4 => k_is); (case l4 => k_is); (case c4 => k_is); (case k4 => k_is); (case a5 => k_is)
    (case l5 => k_is); (case c5 => k_is); (case k5 => k_is); (case a6 => k_is); (case l6 => k_is); (case c6 => k_is)
    (case k6 => k_is); (case a7 => k_is); (case l7 => k_is); (case c7 => k_is); (case k7 => k_is); (case a8 => k_is)
    (case l8 => k_is); (case c8 => k_is); (case k8 => k_is); (case a9 => k_is); (case l9 => k_is); (case c9 => k_is)
    (case k9 => k_is); (case a10 => k_is); (case l10 => k_is); (case c10 => k_is); (case k10 => k_is); (case a11 => k_is)
    (case l11 => k_is); (case c11 => k_is); (case k11 => k_is); (case a12 => k_is); (case l12 => k_is); (case c12 => k_is)
    (case k12 => k_is); (case a13 => k_is); (case l13 => k_is); (case c13 => k_is); (case k13 => k_is); (case a14 => k_is)
    (case l14 => k_is); (case c14 => k_is); (case k14 => k_is); (case a15 => k_is); (case l15 => k_is); (case c15 => k_is)
    (case k15 => k_is); (case a16 => k_is); (case l16 => k_is); (case c16 => k_is); (case k16 => k_is); (case a17 => k_is)
    (case l17 => k_is); (case c17 => k_is); (case k17 => k_is); (case a18 => k_is); (case l18 => k_is); (case c18 => k_is)
    (case k18 => k_is); (case a19 => k_is); (case l19 => k_is); (case c19 => k_is); (case k19 => k_is); (case a20 => k_is)
    (case i20 => k_is); (case l20 => k_is); (case c20 => k_is); (case k20 => k_is); (case a21 => k_is); (case i21 => k_is)
    (case l21 => k_is); (case c21 => k_is); (case k21 => k_is); (case a22 => k_is); (case i22 => k_is); (case l22 => k_is)
    (case c22 => k_is); (case k22 => k_is); (case pgC => k_is); (case hdC => k_is); (case poC => k_is); (case saC => k_is)
    (case mkC => k_is); (case kcC => k_is); (case nC0 => k_is); (case nC1 => k_is); (case nC2 => k_is); (case nC3 => k_is)
    (case tC => rfl); (case tL => k_is); (case tV => rfl); (case tH => kernel_rfl); (case tN => kernel_rfl); (case tM => exact PySem.W.km_tabs_of Y _ (by k_mem))
    (case ct1 => k_is); (case ct2 => k_is); (case ct3 => k_is); (case ct4 => k_is); (case z1 => k_is); (case z2 => k_is)
    (case z3 => k_is); (case z4 => k_is); (case z5 => k_is); (case z6 => k_is); (case z7 => k_is); (case z8 => k_is)
    (case z9 => k_is); (case z10 => k_is); (case z11 => k_is); (case z12 => k_is); (case z13 => k_is); (case z14 => k_is)
    (case z15 => k_is); (case z16 => k_is); (case z17 => k_is); (case z18 => k_is)
#print axioms PySem.Challenge.cw_sharedlines_k06_all_layouts_of_cells_holds
