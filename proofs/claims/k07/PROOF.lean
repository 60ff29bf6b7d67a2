import PyProof.Rows.All
import Wide.All
import OpenK.AllK
import Wide.FinOn
import HandS.ForMost
import HandS.ForExc
import HandS.Strs
import HandS.SetFor
import HandS.ClsMeth
import HandS.DictComp
import HandS.IsInst
import HandS.Style
import HandS.TupAny
import HandS.Star
import HandS.Walk
import HandS.Iter
import KE.SortData
import KE.GoesEnum
import KE.GoesMore
import HandS.OwnEq
import HandS.More
import PyProof.InstNe
import KE.KCallOwn
import HandS.Codes
import KE.KDictList
import HandS.Conv
import HandS.SetTxt0
import HandS.Set
import HandS.ListItems
import HandS.DictTup
import PyProof.RowDictHeap
import HandS.Evl
import HandS.Nested
import HandS.ExcInit
import KE.KExcSuper
import KE.KSuper
import HandS.ExcField
import HandS.TryMany
import HandS.RaiseMore
import HandS.Text
import PyProof.EqKinds
import HandS.Lambda
import HandS.ExcOwn
import KE.KIsNot
import KE.KeyNested
import KE.KDictKeyed
import KE.KDictDisplayH
import HandS.EndTab
import KE.KNestM
import HandS.Deep
import PySem.Challenge.RW_sharedlines_k07_whole_layouts_lead_to_on
set_option Elab.async false
set_option maxRecDepth 100000
set_option maxHeartbeats 4000000
namespace Vf
open PySem PySem.Spec PyProof.Rows L2 ClX

structure SMet (K : PySem.W.Frag) (C : Addr) (mc : Value) (m : Str) (p g : Addr) : Prop where
  fd : PySem.W.findCls K (.ref C) mc m = some (.get (.builtin "staticmethod.__get__") (.ref p) .none (.ref C))
  rc : ∃ rest, PySem.W.recIn K p "staticmethod" = some (.ref g :: rest)
  kp : PySem.W.keepIn K (.ref g) = true
def tSM (C : Addr) (sp : Sp) (dvs : List V) (E : XK) (ta : TE) (t : TA) : TE :=
  fun σ H Q => ta σ H fun x H1 => x = .ref C ∧ t σ H1 fun vs H2 => sp (vs ++ dvs) H2 Q E
section
variable {X : Cx} {CX : CXT} {k : Nat} {C p g : Addr} {mc : Value} {fd : FuncData} {ps : List Str} {sp : Sp} {dvs : List V} {ds : List Value} {E : XK} {o e : Expr} {es : List Expr} {m : Str} {pos apos : Pos} {ta : TE} {t : TA} {pl : Sem Bool}
theorem pe_smeth (he : PE X o ta) (r : CRead X.K C mc) (c : SMet X.K C mc m p g)
    (F : FnOk X.prog X.w X.K X.mg X.base CX k g fd ps sp) (hr : Room k X.A) (hb : Binds X.K fd ps ds) (hd : Vals dvs ds) (hx : Passes CX X E)
    (ha : PA X (e :: es) t) (hst : starEach (e :: es) X.env = (false, eval e X.env) :: starEach es X.env := by rfl)
    (hpl : (backTo pos (starEach es X.env)).any (·.1) = false := by rfl)
    (ht : eval (.Call (.Attribute o m apos) (e :: es) [] pos) X.env = (do
      let ov ← eval o X.env
      standAt apos.atName
      let (f, first) ← holding [ov] (getMethod ov m pl)
      callWith pos f first (backTo pos (starEach (e :: es) X.env)) (backToKw pos (keywordEach [] X.env))) := by rfl) :
    PE X (.Call (.Attribute o m apos) (e :: es) [] pos) (tSM C sp dvs E ta t) := by
  refine ⟨fun pins s σ H Q I h => PySem.W.methodCall_KW (pl := pl) (thn (he.run pins s σ H _ I h) ?_) ht⟩
  rintro u s1 ⟨x, H1, I1, rx, rfl, q⟩
  obtain rfl : u = Value.ref C := rx
  obtain ⟨rest, hp⟩ := c.rc
  refine PySem.W.method_cls I1.kIn r.ga (PySem.W.cls_bind I1.kIn r.rd c.fd (wpAny_call
    (PySem.W.sm_get (s := { s1 with toks := s1.toks + 1 }) I1.kIn hp (PySem.W.handed_on rfl ?_))))
  have I2 : Inv X pins σ H1 { s1 with toks := s1.toks + 1 } := I1.tok _
  refine PySem.W.callWith_K (h₀ := X.base) I.ok.mod.kin c.kp (thn (ha.run pos pins _ σ H1 _ I2 q) ?_) hst hpl
  rintro us s2 ⟨vs, H2, I3, rv, q2⟩
  exact ⟨I3.kIn, run_fn F hr hb hd hx I3 rv q2⟩
end
end Vf

set_option maxRecDepth 100000
set_option maxHeartbeats 4000000
namespace Vf
open PySem PySem.Spec PyProof.Rows L2
/-- a set just made -/
abbrev emptySet (w : World) : Obj := { cls := .type "set", dict := none, data := .set #[] 0 (.fresh 0 0 (!w.params.followText "set-order")) }
section
variable {P : Program} {w : World} {A : Around} {E : Value → Shared → Prop} {s : Shared}
theorem set_init_list {l S : Addr} {items : Array Value} {h0 : Heap} (ns : List Int) (hh : A.handled = none) (h0S : S = s.heap.objs.size) (hl : s.heap.IsList l items)
    (hit : IntsAre items.toList ns) (hb : ns.length + 1 < scanBound) (e0 : h0 = s.heap.push (emptySet w)) {R : Result → Shared → Prop}
    (h : ∀ h' tk c, SetR w h' S (fun j => decide (j ∈ ns)) c → c ≤ ns.length → (∀ b o, s.heap.get? b = some o → h'.get? b = some o) →
      R (.ok (.ret .none)) { s with heap := h', toks := tk }) :
    codeAny (model P w) A (.call (.builtin "set.__init__") ⟨[.ref S, .ref l], []⟩) R { s with heap := h0 } := by
  subst h0S e0
  have hS : (s.heap.push (emptySet w)).get? s.heap.objs.size = some (emptySet w) := Heap.get?_push_size _ rfl
  have hT : Shared.TypeIs { s with heap := s.heap.push (emptySet w) } (.ref s.heap.objs.size) "set" := ⟨_, hS, rfl⟩
  refine codeAny_call_builtin F.called_set.init.plain F.entry_set_init (check_set_init_1 hT ?_)
  have hisz : items.size = ns.length := by
    have q := IntsAre.length hit
    rwa [Array.length_toList] at q
  obtain ⟨ol, hol, hcl, nl, hdl⟩ := hl
  obtain ⟨ocls, odict, odata, oslots⟩ := ol
  dsimp only at hcl hdl
  subst hcl hdl
  have hol' : (s.heap.push (emptySet w)).get? l = some { cls := .type "list", dict := odict, data := .seq items nl, slots := oslots } :=
    Heap.get?_push_of_some _ hol
  have hsls := F.sub_list_set
  have hslf := F.sub_list_frozenset
  have hne : (Value.type "list" == Value.type "dict") = false := by decide
  have hl1 : (s.heap.push (emptySet w)).IsList l items := ⟨_, hol', rfl, nl, rfl⟩
  unfold Builtin.«set.__init__» noKeywords Builtin.Frozenset.updateFrom
  generalize hPI : pyIter = PI
  wp_walk
  subst hPI
  refine wpAny_pyIter_list hl1 (wpAny_bind (wpAny_runValue ?_))
  have hlS : l < s.heap.objs.size := Heap.lt_size hol
  have hh3 : A.in1.in1.handled = none := hh
  have hsz : (s.heap.push (emptySet w)).objs.size = s.heap.objs.size + 1 := Heap.size_push ..
  have hlt : ∀ b : Addr, b < s.heap.objs.size → b ∉ [s.heap.objs.size, s.heap.objs.size + 1] := fun b hb hm => by
    rcases List.mem_cons.mp hm with e | e
    · exact Nat.lt_irrefl _ (e ▸ hb)
    · exact Nat.lt_irrefl _ (Nat.lt_succ_of_lt (List.mem_singleton.mp e ▸ hb))
  have hneI : l ≠ (s.heap.push (emptySet w)).objs.size := by rw [hsz]; exact Nat.ne_of_lt (Nat.lt_succ_of_lt hlS)
  have hSf : s.heap.objs.size ∉ [(s.heap.push (emptySet w)).objs.size, l] := by
    rw [hsz]
    simp only [List.mem_cons, List.not_mem_nil, or_false, not_or]
    exact ⟨Nat.ne_of_lt (Nat.lt_succ_self _), Nat.ne_of_gt hlS⟩
  have hcur : (s.heap.push (emptySet w)).IsList l items := hl1
  have hval : ∀ (i : Nat) (v : Value), items[i]? = some v → ∃ k t, ns[i]? = some k ∧ v = .int k t := fun i v hv => by
    have hi : i < items.size := (Array.getElem?_eq_some_iff.mp hv).1
    obtain ⟨t, ht⟩ := IntsAre.int_at hit i v (by rw [Array.getElem?_toList]; exact hv)
    have hi2 : i < ns.length := by omega
    refine ⟨ns[i], t, List.getElem?_eq_getElem hi2, ?_⟩
    rw [ht, List.getD_eq_getElem?_getD, List.getElem?_eq_getElem hi2]
    rfl
  refine set_update_ints ((Walks.list hh3 _ l hneI items).toS) s.heap.objs.size hSf ns hisz hb hval (items.size - 0) 0 _ (by omega) (Nat.zero_le _)
    ?hSt ?hS0 ?hR
  case hSt => exact ⟨⟨_, Heap.get?_push_size _ rfl, rfl, rfl⟩, (hl1.push _)⟩
  case hS0 => exact ⟨0, Nat.le_refl _, setR_new_at (Heap.get?_push_of_some _ hS)⟩
  case hR =>
    rintro ⟨h', g2, d', tk', os'⟩ c hm hc hR
    obtain rfl : g2 = s.gens := hm.gens
    obtain rfl : d' = s.drawn := hm.drawn
    obtain rfl : os' = s.os := hm.os
    refine wpAny_pure (wpAny_pure (h h' tk' c hR (by omega) fun b o e => ?_))
    refine hm.heap b o ?_ (Heap.get?_push_of_some _ (Heap.get?_push_of_some _ e))
    rw [hsz]
    exact hlt b (Heap.lt_size e)
theorem call_set_listI {l : Addr} {items : Array Value} (ns : List Int) {Q : Value → Shared → Prop} (hh : A.handled = none) (hl : s.heap.IsList l items)
    (hit : IntsAre items.toList ns) (hb : ns.length + 1 < scanBound)
    (h : ∀ h' tk c, SetR w h' s.heap.objs.size (fun j => decide (j ∈ ns)) c → c ≤ ns.length → (∀ b o, s.heap.get? b = some o → h'.get? b = some o) →
      Q (.ref s.heap.objs.size) { s with heap := h', toks := tk }) :
    wpAny (model P w) A (call (.type "set") [.ref l]) Q E s := by
  have hT : Shared.TypeIs { s with heap := s.heap.push (emptySet w) } (.ref s.heap.objs.size) "set" := ⟨_, Heap.get?_push_size _ rfl, rfl⟩
  obtain ⟨c, tl, hmro⟩ := F.called_set.mro; have hmade := F.called_set.made; have hsub := F.called_set.sub
  have h1 := F.called_set.notType; have h2 := F.called_set.canCreate; have hct := F.typeCall_set_1 (.ref l)
  have hli := F.called_set.init.lookup; have hbi := F.called_set.init.bind (.ref s.heap.objs.size)
  refine wpAny_call (codeAny_of_tree (show wpAny _ _ (callAny (.type "set") _) _ _ _ from
    wpAny_pure ⟨Code.quiet_builtin _ (by decide +kernel), codeAny_builtin F.entry_type_call ?_⟩))
  rw [Around.under_plain (weight_type_call_type "set" [.ref l] []) rfl]
  repeat (any_goals (first | assumption | wp_step))
  refine codeAny_mono (code_set_led1 (.ref l) (E := E) (Q₁ := fun obj s₁ => obj = .ref s.heap.objs.size ∧ s₁ = { s with heap := s.heap.push (emptySet w) }) ⟨rfl, rfl⟩) ?_
  rintro (e | (_ | _ | _ | obj)) s₁ hr
  · exact hr
  · exact hr.elim
  · exact hr.elim
  · exact hr.elim
  obtain ⟨rfl, rfl⟩ := hr
  repeat (any_goals (first | assumption | wp_step))
  refine codeAny_mono (set_init_list (s := s) (R := wants (fun r s₂ => r = .none ∧ Q (.ref s.heap.objs.size) s₂) E) ns (by exact hh) rfl hl hit hb rfl
    fun h' tk c hR hc hk => ⟨rfl, h h' tk c hR hc hk⟩) ?_
  rintro (e | (_ | _ | _ | r)) s₂ hr
  · exact hr
  · exact hr.elim
  · exact hr.elim
  · exact hr.elim
  obtain ⟨rfl, hq⟩ := hr
  repeat (any_goals (first | assumption | wp_step))
end
theorem nodup_len {α : Type} [DecidableEq α] : ∀ {l m : List α}, l.Nodup → (∀ x ∈ l, x ∈ m) → l.length ≤ m.length
  | [], _, _, _ => Nat.zero_le _
  | a :: l, m, nd, h => by
    have hm := h a List.mem_cons_self
    have e := List.length_erase_of_mem hm
    have hpos := List.length_pos_of_mem hm
    have ih := nodup_len (l := l) (m := m.erase a) (List.nodup_cons.mp nd).2 fun x hx => by
      refine (List.mem_erase_of_ne fun z => ?_).mpr (h x (List.mem_cons_of_mem _ hx))
      exact (List.nodup_cons.mp nd).1 (z ▸ hx)
    rw [List.length_cons]
    omega
/-- set(xs): the set of the ints of a list, new -/
def rSetI (K : PySem.W.Frag) (w : World) : List V → Hp → VK → Prop := fun vs H Q => ∃ (a : Addr) (ns : List Int), vs = [.ref a] ∧ SqL K H a (ns.map V.int) ∧ ns.length + 1 < scanBound ∧
  ∀ (p : Addr) (c : Nat), H p = none → (∀ l : List Int, (∀ k ∈ ns, k ∈ l) → c ≤ l.length) → Q (.ref p) (upd H p (SetO w p (fun j => decide (j ∈ ns)) c))
theorem cr_setI {X : Cx} (hc : X.calm = true) : CallR X (.type "set") (rSetI X.K X.w) := by
  intro pins s σ H vs us Q I r h
  obtain ⟨a, ns, rfl, hS, hb, q⟩ := h
  obtain ⟨its, rv, pl, hz⟩ := I.list hS
  rw [Vals.ref1 r]
  refine call_set_listI ns (I.ok.hd hc) pl.isList (by simpa using intsAre_of rv) hb fun h' tk c R hcn k => ?_
  refine ⟨.ref _, _, I.laid (t' := tk) k (Nat.le_refl _) (setO_new R), rfl, q _ c (I.hok.fresh (Nat.le_refl _)) fun l hl => ?_⟩
  obtain ⟨o, es, ep, t, _, _, _, _, nd, hm, _, _, hn, _⟩ := R
  rw [← hn, ← Array.length_toList, ← List.length_map (f := keyOf)]
  exact nodup_len nd fun x hx => hl x (of_decide_eq_true ((hm x).mpr hx))
end Vf

set_option maxRecDepth 100000
set_option maxHeartbeats 4000000
namespace Vf
open PySem PySem.Spec PyProof.Rows L2
section
variable {J : It} {n : Nat} {G : Hp → Prop} {Y : Nat → Hp → V → Hp → Prop}
theorem same_new {H : Hp} {p : Addr} {o : HO} (h : H p = none) : Same H (upd H p o) := fun b u e => by rw [upd_ne (ne_of_none e h)]; exact e
theorem same_upd {H H1 : Hp} {p : Addr} {o : HO} (s : Same H H1) (h : H p = none) : Same H (upd H1 p o) := fun b u e => by rw [upd_ne (ne_of_none e h)]; exact s b u e
theorem same_both {H H1 : Hp} {p : Addr} {o : HO} (s : Same H H1) : Same (upd H p o) (upd H1 p o) := fun b u e => by
  by_cases hb : b = p
  · subst hb
    rw [upd_same] at e ⊢
    exact e
  · rw [upd_ne hb] at e ⊢
    exact s b u e
theorem take_fm {α β : Type} {l : List α} {f : α → Option β} {i : Nat} {a : α} (h : l[i]? = some a) : (l.take (i + 1)).filterMap f = (l.take i).filterMap f ++ (f a).toList := by
  rw [List.take_add_one, h, List.filterMap_append]
  cases e : f a <;> simp [e]
/-- [.. for .. in .. if ..] -/
theorem lc_fm {α : Type} (l : List α) (w : Walk J l.length G Y) {g : TG} {tt : TT} {te : TE} {vs : List Nat} {σ : L2.St} {H1 : Hp} {D : Addr} {Qd : Hp → Prop} (hD : H1 D = none) (f : α → Option V) (hn : l.length < 1000000) (hG : ∀ H, Same H1 H → G H)
    (hs : ∀ i a x H H', l[i]? = some a → Same H1 H → Y i H x H' → ∀ R : Option V → Hp → Prop, (∀ H4, Same H H4 → R (f a) H4) →
      g x (wipe σ vs) H' fun σ2 H2 => wipe σ2 vs = wipe σ vs ∧ tt σ2 H2 fun b H3 => if b = true then te σ2 H3 (fun y => R (some y)) else R none H3)
    (hd : ∀ H, Same H1 H → H D = some (.lst (l.filterMap f)) → Qd H) :
    ∃ W : Nat → Nat → Hp → Prop, (∃ m, W 0 m (upd H1 D (.lst []))) ∧ ∀ i m H, W i m H →
      (J.stop i H ∧ Qd H) ∨ (J.go i H ∧ ∃ Nx : Hp → Prop, (∀ H', Nx H' → ∃ m', m' < m ∧ W (i + 1) m' H') ∧ ∀ x H', J.yld i H x H' → g x (wipe σ vs) H' fun σ2 H2 => wipe σ2 vs = wipe σ vs ∧ tt σ2 H2 fun b H3 =>
        if b = true then te σ2 H3 fun y H4 => ∃ acc, H4 D = some (.lst acc) ∧ acc.length < sizeLine ∧ Nx (upd H4 D (.lst (acc ++ [y]))) else Nx H3) := by
  refine ⟨fun i m H => m = l.length - i ∧ i ≤ l.length ∧ Same H1 H ∧ H D = some (.lst ((l.take i).filterMap f)), ⟨l.length, by simp, Nat.zero_le _, same_new hD, by rw [upd_same]; simp⟩, ?_⟩
  rintro i m H ⟨rfl, hi, s, hH⟩
  by_cases hlt : i < l.length
  · have ha : l[i]? = some l[i] := List.getElem?_eq_getElem hlt
    have hlen : ((l.take i).filterMap f).length < sizeLine := by
      have h1 := List.length_filterMap_le f (l.take i)
      rw [List.length_take] at h1
      rw [sizeLine_eq]
      omega
    refine .inr ⟨w.goes i H hlt (hG H s), fun H' => Same H1 H' ∧ H' D = some (.lst ((l.take (i + 1)).filterMap f)), fun H' p => ⟨l.length - (i + 1), by omega, rfl, hlt, p⟩, fun x H' y => ?_⟩
    refine hs i _ x H H' ha s (w.yields i H x H' hlt (hG H s) y) (fun o H4 => match o with
      | some y => ∃ acc, H4 D = some (.lst acc) ∧ acc.length < sizeLine ∧ Same H1 (upd H4 D (.lst (acc ++ [y]))) ∧ (upd H4 D (.lst (acc ++ [y]))) D = some (.lst ((l.take (i + 1)).filterMap f))
      | none => Same H1 H4 ∧ H4 D = some (.lst ((l.take (i + 1)).filterMap f))) ?_
    intro H4 s4
    have e4 := s4 D _ hH
    rw [take_fm ha]
    cases e : f l[i] with
    | some y => exact ⟨_, e4, hlen, same_upd (s.trans s4) hD, by rw [upd_same]; rfl⟩
    | none => exact ⟨s.trans s4, by rw [e4]; simp⟩
  · have e : i = l.length := by omega
    subst e
    rw [List.take_length] at hH
    exact .inl ⟨w.stops H (hG H s), hd H s hH⟩
/-- [.. for .. in ..], no test -/
theorem lc_mp {α : Type} (l : List α) (w : Walk J l.length G Y) {g : TG} {te : TE} {vs : List Nat} {σ : L2.St} {H1 : Hp} {D : Addr} {Qd : Hp → Prop} (hD : H1 D = none) (f : α → V) (hn : l.length < 1000000) (hG : ∀ H, Same H1 H → G H)
    (hs : ∀ i a x H H', l[i]? = some a → Same H1 H → Y i H x H' → ∀ R : V → Hp → Prop, (∀ H4, Same H H4 → R (f a) H4) →
      g x (wipe σ vs) H' fun σ2 H2 => wipe σ2 vs = wipe σ vs ∧ te σ2 H2 R)
    (hd : ∀ H, Same H1 H → H D = some (.lst (l.map f)) → Qd H) :
    ∃ W : Nat → Nat → Hp → Prop, (∃ m, W 0 m (upd H1 D (.lst []))) ∧ ∀ i m H, W i m H →
      (J.stop i H ∧ Qd H) ∨ (J.go i H ∧ ∃ Nx : Hp → Prop, (∀ H', Nx H' → ∃ m', m' < m ∧ W (i + 1) m' H') ∧ ∀ x H', J.yld i H x H' → g x (wipe σ vs) H' fun σ2 H2 => wipe σ2 vs = wipe σ vs ∧ tYes σ2 H2 fun b H3 =>
        if b = true then te σ2 H3 fun y H4 => ∃ acc, H4 D = some (.lst acc) ∧ acc.length < sizeLine ∧ Nx (upd H4 D (.lst (acc ++ [y]))) else Nx H3) := by
  refine ⟨fun i m H => m = l.length - i ∧ i ≤ l.length ∧ Same H1 H ∧ H D = some (.lst ((l.take i).map f)), ⟨l.length, by simp, Nat.zero_le _, same_new hD, by rw [upd_same]; simp⟩, ?_⟩
  rintro i m H ⟨rfl, hi, s, hH⟩
  by_cases hlt : i < l.length
  · have ha : l[i]? = some l[i] := List.getElem?_eq_getElem hlt
    have hlen : ((l.take i).map f).length < sizeLine := by
      rw [List.length_map, List.length_take, sizeLine_eq]
      omega
    refine .inr ⟨w.goes i H hlt (hG H s), fun H' => Same H1 H' ∧ H' D = some (.lst ((l.take (i + 1)).map f)), fun H' p => ⟨l.length - (i + 1), by omega, rfl, hlt, p⟩, fun x H' y => ?_⟩
    have q := hs i _ x H H' ha s (w.yields i H x H' hlt (hG H s) y) (fun y H4 => ∃ acc, H4 D = some (.lst acc) ∧ acc.length < sizeLine ∧ Same H1 (upd H4 D (.lst (acc ++ [y]))) ∧ (upd H4 D (.lst (acc ++ [y]))) D = some (.lst ((l.take (i + 1)).map f))) ?_
    · exact q
    intro H4 s4
    have e4 := s4 D _ hH
    refine ⟨_, e4, hlen, same_upd (s.trans s4) hD, ?_⟩
    rw [upd_same, List.take_add_one, ha, List.map_append]
    rfl
  · have e : i = l.length := by omega
    subst e
    rw [List.take_length] at hH
    exact .inl ⟨w.stops H (hG H s), hd H s hH⟩
/-- {.. for .. in ..}: the state by an invariant -/
theorem dc_it (w : Walk J n G Y) {g : TG} {tt : TT} {tk tv : TE} {vs : List Nat} {σ : L2.St} {H1 : Hp} {D : Addr} {Qd : Hp → Prop} (Pv : Nat → Hp → Prop) (h0 : Pv 0 (upd H1 D (.dK []))) (hG : ∀ i H, i ≤ n → Pv i H → G H)
    (hs : ∀ i x H H', i < n → Pv i H → Y i H x H' → g x (wipe σ vs) H' fun σ2 H2 => wipe σ2 vs = wipe σ vs ∧ tt σ2 H2 fun b H3 =>
      if b = true then tk σ2 H3 fun y H4 => tv σ2 H4 fun z H5 => ∃ kvs k, y = kV k ∧ H5 D = some (.dK kvs) ∧ kvs.length < sizeLine ∧ Pv (i + 1) (upd H5 D (.dK (putK kvs k z))) else Pv (i + 1) H3) (hd : ∀ H, Pv n H → Qd H) :
    ∃ W : Nat → Nat → Hp → Prop, (∃ m, W 0 m (upd H1 D (.dK []))) ∧ ∀ i m H, W i m H →
      (J.stop i H ∧ Qd H) ∨ (J.go i H ∧ ∃ Nx : Hp → Prop, (∀ H', Nx H' → ∃ m', m' < m ∧ W (i + 1) m' H') ∧ ∀ x H', J.yld i H x H' → g x (wipe σ vs) H' fun σ2 H2 => wipe σ2 vs = wipe σ vs ∧ tt σ2 H2 fun b H3 =>
        if b = true then tk σ2 H3 fun y H4 => tv σ2 H4 fun z H5 => ∃ kvs k, y = kV k ∧ H5 D = some (.dK kvs) ∧ kvs.length < sizeLine ∧ Nx (upd H5 D (.dK (putK kvs k z))) else Nx H3) := by
  refine ⟨fun i m H => m = n - i ∧ i ≤ n ∧ Pv i H, ⟨n, by simp, Nat.zero_le _, h0⟩, ?_⟩
  rintro i m H ⟨rfl, hi, p⟩
  by_cases hlt : i < n
  · exact .inr ⟨w.goes i H hlt (hG i H hi p), Pv (i + 1), fun H' p' => ⟨n - (i + 1), by omega, rfl, hlt, p'⟩, fun x H' y => hs i x H H' hlt p (w.yields i H x H' hlt (hG i H hi p) y)⟩
  · have e : i = n := by omega
    subst e
    exact .inl ⟨w.stops H (hG i H hi p), hd H p⟩
end
end Vf

set_option maxRecDepth 100000
set_option maxHeartbeats 4000000
namespace Vf
open PySem PySem.Spec PyProof.Rows L2

/-- the text of a number -/
def natS (k : Nat) : Str := Str.ofString (toString (k : Int))
def sRead : Str := "read"
def sWrite : Str := "write"
def sArrow : Str := "->"
def sEnd : Str := "end"
def sSp : Str := " "
def sNl : Str := "\n"
def isNameT (z : Str) : Bool := decide (1 ≤ z.length) && decide (z.length ≤ 8) && z.cps.toList.all fun c => decide (97 ≤ c) && decide (c ≤ 122)
/-- the number of a word, one of many -/
def numOf (many : Nat) (z : Str) : Option Nat := (List.range many).find? fun k => decide (natS k = z)
/-- a node: what it does, its cell, its targets (none: the end) -/
structure Nd where
  word : Str
  cell : Str
  tg : List (Option Nat)
  deriving DecidableEq
def rises : List Nat → Bool
  | [] => true
  | [_] => true
  | a :: b :: r => decide (a < b) && rises (b :: r)
def targetsT (many : Nat) (ws : List Str) : Option (List (Option Nat)) :=
  match ws with
  | [] => some [none]
  | w :: rest =>
    if w ≠ sArrow ∨ rest = [] then none else
    let e := decide (rest.getLast? = some sEnd)
    let named := if e then rest.dropLast else rest
    if named.all fun z => (numOf many z).isSome then
      if rises (named.filterMap (numOf many)) then some ((named.filterMap (numOf many)).map some ++ if e then [none] else []) else none
    else none
def tgOf (many : Nat) (named : List Str) (e : Bool) : Option (List (Option Nat)) :=
  if named.all fun z => (numOf many z).isSome then
    if rises (named.filterMap (numOf many)) then some ((named.filterMap (numOf many)).map some ++ if e then [none] else []) else none
  else none
theorem targetsT_bad {many : Nat} {w : Str} {rest : List Str} (h : w ≠ sArrow) : targetsT many (w :: rest) = none := if_pos (.inl h)
theorem targetsT_bare {many : Nat} : targetsT many [sArrow] = none := by
  show (if sArrow ≠ sArrow ∨ ([] : List Str) = [] then none else tgOf many [] false) = none
  rw [if_pos (.inr rfl)]
theorem targetsT_step {many : Nat} {rs : List Str} {z : Str} : targetsT many (sArrow :: (rs ++ [z])) = tgOf many (if decide (z = sEnd) = true then rs else rs ++ [z]) (decide (z = sEnd)) := by
  have e : targetsT many (sArrow :: (rs ++ [z])) = tgOf many (if decide ((rs ++ [z]).getLast? = some sEnd) = true then (rs ++ [z]).dropLast else rs ++ [z]) (decide ((rs ++ [z]).getLast? = some sEnd)) :=
    if_neg (by simp)
  rw [e, List.getLast?_append, List.dropLast_concat]
  simp only [List.getLast?_singleton, Option.some_or, Option.some.injEq]
def nodeT (many : Nat) (row : Str) : Option Nd :=
  match Txt.split row sSp with
  | w :: c :: rest => if (w = sRead ∨ w = sWrite) ∧ isNameT c = true then (targetsT many rest).map fun t => ⟨w, c, t⟩ else none
  | _ => none
/-- the nodes of the first rows, as far as they are right -/
def nodesT (many : Nat) : List Str → Option (List Nd)
  | [] => some []
  | r :: rs => (nodeT many r).bind fun n => (nodesT many rs).map (n :: ·)
def parseT (z : Str) : Option (List Nd) :=
  let rows := Txt.split z sNl
  if rows.length ≤ 8 then nodesT rows.length rows else none

theorem tl_natS (k : Nat) : TL.tl (natS k) = TL.numL k := TL.tl_num k
theorem natS_inj {a b : Nat} (h : natS a = natS b) : a = b := by
  have e : TL.tl (natS a) = TL.tl (natS b) := by rw [h]
  rw [tl_natS, tl_natS] at e
  exact TL.numL_inj e
theorem numOf_some {many k : Nat} {z : Str} : numOf many z = some k ↔ k < many ∧ natS k = z := by
  unfold numOf
  constructor
  · intro h
    have h1 := List.find?_some (p := fun k => decide (natS k = z)) h
    have h2 := List.mem_of_find?_eq_some h
    exact ⟨List.mem_range.mp h2, of_decide_eq_true h1⟩
  · rintro ⟨h1, h2⟩
    cases e : (List.range many).find? fun k => decide (natS k = z) with
    | none =>
      have := List.find?_eq_none.mp e k (List.mem_range.mpr h1)
      exact absurd (decide_eq_true h2) this
    | some j =>
      have h3 : natS j = z := of_decide_eq_true (List.find?_some (p := fun k => decide (natS k = z)) e)
      rw [natS_inj (h3.trans h2.symm)]
theorem numOf_nat {many k : Nat} (h : k < many) : numOf many (natS k) = some k := numOf_some.mpr ⟨h, rfl⟩

def tgS : Option Nat → Str
  | none => sEnd
  | some k => natS k
def rowW (full : Bool) (n : Nd) : List Str := if full = false ∧ n.tg = [none] then [n.word, n.cell] else n.word :: n.cell :: sArrow :: n.tg.map tgS
def rowS (full : Bool) (n : Nd) : Str := Txt.join sSp (rowW full n)
structure GoodTg (many : Nat) (tg : List (Option Nat)) : Prop where
  ne : tg ≠ []
  sh : ∃ (ks : List Nat) (e : Bool), tg = ks.map some ++ (if e then [none] else []) ∧ rises ks = true ∧ ∀ k ∈ ks, k < many
structure GoodNd (many : Nat) (n : Nd) : Prop where
  word : n.word = sRead ∨ n.word = sWrite
  cell : isNameT n.cell = true
  tg : GoodTg many n.tg
inductive Rows : List Str → List Nd → Prop
  | nil : Rows [] []
  | cons {n : Nd} {rs : List Str} {ns : List Nd} (f : Bool) : Rows rs ns → Rows (rowS f n :: rs) (n :: ns)

theorem tl_sp : TL.tl sSp = [32] := by decide +kernel
theorem tl_nl : TL.tl sNl = [10] := by decide +kernel
theorem tl_end : TL.tl sEnd = [101, 110, 100] := by decide +kernel
theorem natS_ne_end (k : Nat) : natS k ≠ sEnd := fun h => by
  have e : TL.tl (natS k) = TL.tl sEnd := by rw [h]
  rw [tl_natS, tl_end] at e
  exact TL.numL_free (n := k) (s := 101) (by omega) (by rw [e]; decide)
theorem filterMap_nat {many : Nat} : ∀ {ks : List Nat}, (∀ k ∈ ks, k < many) → (ks.map natS).filterMap (numOf many) = ks
  | [], _ => rfl
  | k :: ks, h => by
    rw [List.map_cons, List.filterMap_cons, numOf_nat (h k List.mem_cons_self), filterMap_nat fun z hz => h z (List.mem_cons_of_mem _ hz)]
theorem all_nat {many : Nat} {ks : List Nat} (h : ∀ k ∈ ks, k < many) : ((ks.map natS).all fun z => (numOf many z).isSome) = true := by
  rw [List.all_eq_true]
  intro z hz
  obtain ⟨k, hk, rfl⟩ := List.mem_map.mp hz
  rw [numOf_nat (h k hk)]
  rfl
theorem targetsT_good {many : Nat} {tg : List (Option Nat)} (g : GoodTg many tg) : targetsT many (sArrow :: tg.map tgS) = some tg := by
  obtain ⟨ne, ks, e, rfl, hr, hk⟩ := g
  have hne : (ks.map some ++ (if e then [none] else [])).map tgS ≠ [] := fun z => ne (List.map_eq_nil_iff.mp z)
  have em : (ks.map some ++ (if e then [none] else [])).map tgS = ks.map natS ++ (if e then [sEnd] else []) := by
    rw [List.map_append, List.map_map]
    cases e <;> rfl
  unfold targetsT
  rw [em] at hne ⊢
  dsimp only
  rw [if_neg (by simp only [ne_eq, not_true, false_or]; exact hne)]
  cases e with
  | true =>
    have l1 : decide ((ks.map natS ++ (if true = true then [sEnd] else [])).getLast? = some sEnd) = true := by simp
    have l2 : (ks.map natS ++ (if true = true then [sEnd] else [])).dropLast = ks.map natS := by simp
    rw [l1, if_pos rfl, l2, if_pos (all_nat hk), filterMap_nat hk, if_pos hr]
  | false =>
    have l0 : ks.map natS ++ (if false = true then [sEnd] else []) = ks.map natS := by simp
    rw [l0]
    have l1 : decide ((ks.map natS).getLast? = some sEnd) = false := by
      refine decide_eq_false fun z => ?_
      obtain ⟨k, _, h⟩ := List.mem_map.mp (List.mem_of_getLast? z)
      exact natS_ne_end k h
    rw [l1, if_neg Bool.false_ne_true, if_pos (all_nat hk), filterMap_nat hk, if_pos hr]

/-- words of a row have no blank and no line feed in them -/
def Solid (z : Str) : Prop := ∀ c ∈ TL.tl z, c ≠ 32 ∧ c ≠ 10
theorem solid_of {z : Str} {l : List Nat} (e : TL.tl z = l) (h : (l.all fun c => decide (c ≠ 32) && decide (c ≠ 10)) = true) : Solid z := fun c hc => by
  rw [e] at hc
  have q := List.all_eq_true.mp h c hc
  simpa using q
theorem solid_read : Solid sRead := solid_of (l := [114, 101, 97, 100]) (by decide +kernel) (by decide)
theorem solid_write : Solid sWrite := solid_of (l := [119, 114, 105, 116, 101]) (by decide +kernel) (by decide)
theorem solid_arrow : Solid sArrow := solid_of (l := [45, 62]) (by decide +kernel) (by decide)
theorem solid_end : Solid sEnd := solid_of tl_end (by decide)
theorem solid_nat (k : Nat) : Solid (natS k) := fun c hc => by
  rw [tl_natS] at hc
  exact ⟨fun e => TL.numL_free (n := k) (s := 32) (by omega) (e ▸ hc), fun e => TL.numL_free (n := k) (s := 10) (by omega) (e ▸ hc)⟩
theorem name_signs {z : Str} (h : isNameT z = true) : ∀ c ∈ TL.tl z, 97 ≤ c ∧ c ≤ 122 := fun c hc => by
  unfold isNameT at h
  simp only [Bool.and_eq_true, List.all_eq_true, decide_eq_true_eq] at h
  exact h.2 c hc
theorem name_len {z : Str} (h : isNameT z = true) : 1 ≤ z.length ∧ z.length ≤ 8 := by
  unfold isNameT at h
  simp only [Bool.and_eq_true, decide_eq_true_eq] at h
  exact h.1
theorem solid_name {z : Str} (h : isNameT z = true) : Solid z := fun c hc => by
  have := name_signs h c hc
  omega
theorem solid_tg (t : Option Nat) : Solid (tgS t) := by
  cases t with
  | none => exact solid_end
  | some k => exact solid_nat k
theorem solid_row {many : Nat} {n : Nd} (g : GoodNd many n) (f : Bool) : ∀ z ∈ rowW f n, Solid z := fun z hz => by
  have hw : Solid n.word := by rcases g.word with e | e <;> rw [e] <;> first | exact solid_read | exact solid_write
  unfold rowW at hz
  split at hz
  · rcases List.mem_cons.mp hz with rfl | hz
    · exact hw
    · rw [List.mem_singleton.mp hz]
      exact solid_name g.cell
  · rcases List.mem_cons.mp hz with rfl | hz
    · exact hw
    rcases List.mem_cons.mp hz with rfl | hz
    · exact solid_name g.cell
    rcases List.mem_cons.mp hz with rfl | hz
    · exact solid_arrow
    · obtain ⟨t, _, rfl⟩ := List.mem_map.mp hz
      exact solid_tg t
theorem rowW_ne (f : Bool) (n : Nd) : rowW f n ≠ [] := by
  unfold rowW
  split <;> simp
theorem split_row {many : Nat} {n : Nd} (g : GoodNd many n) (f : Bool) : Txt.split (rowS f n) sSp = rowW f n :=
  TL.split_join (y := sSp) (s := 32) (S := []) tl_sp (by decide +kernel) (rowW_ne f n) fun z hz h => (solid_row g f z hz 32 h).1 rfl
theorem nodeT_good {many : Nat} {n : Nd} (g : GoodNd many n) (f : Bool) : nodeT many (rowS f n) = some n := by
  unfold nodeT
  rw [split_row g f]
  by_cases hf : f = false ∧ n.tg = [none]
  · have e : rowW f n = [n.word, n.cell] := if_pos hf
    rw [e]
    show (if (n.word = sRead ∨ n.word = sWrite) ∧ isNameT n.cell = true then (targetsT many []).map _ else none) = _
    rw [if_pos ⟨g.word, g.cell⟩]
    obtain ⟨w, c, t⟩ := n
    obtain rfl : t = [none] := hf.2
    rfl
  · have e : rowW f n = n.word :: n.cell :: sArrow :: n.tg.map tgS := if_neg hf
    rw [e]
    show (if (n.word = sRead ∨ n.word = sWrite) ∧ isNameT n.cell = true then (targetsT many (sArrow :: n.tg.map tgS)).map _ else none) = _
    rw [if_pos ⟨g.word, g.cell⟩, targetsT_good g.tg]
    rfl
theorem nodesT_good {many : Nat} {rs : List Str} {ns : List Nd} (h : Rows rs ns) (g : ∀ n ∈ ns, GoodNd many n) : nodesT many rs = some ns := by
  induction h with
  | nil => rfl
  | @cons n rs ns f _ ih =>
    unfold nodesT
    rw [nodeT_good (g n List.mem_cons_self) f, ih fun z hz => g z (List.mem_cons_of_mem _ hz)]
    rfl
theorem Rows.len {rs : List Str} {ns : List Nd} (h : Rows rs ns) : rs.length = ns.length := by
  induction h with
  | nil => rfl
  | cons f _ ih => rw [List.length_cons, List.length_cons, ih]
theorem mem_joinL {S : List Nat} {c : Nat} : ∀ {ps : List (List Nat)}, c ∈ TL.joinL S ps → c ∈ S ∨ ∃ p ∈ ps, c ∈ p
  | [], h => by cases h
  | [p], h => .inr ⟨p, List.mem_cons_self, h⟩
  | p :: q :: r, h => by
    have h' : c ∈ p ++ (S ++ TL.joinL S (q :: r)) := h
    rcases List.mem_append.mp h' with h | h
    · exact .inr ⟨p, List.mem_cons_self, h⟩
    rcases List.mem_append.mp h with h | h
    · exact .inl h
    · rcases mem_joinL (ps := q :: r) h with h | ⟨z, hz, hc⟩
      · exact .inl h
      · exact .inr ⟨z, List.mem_cons_of_mem _ hz, hc⟩
theorem row_no_nl {many : Nat} {n : Nd} (g : GoodNd many n) (f : Bool) : 10 ∉ TL.tl (rowS f n) := fun h => by
  unfold rowS at h
  rw [TL.join_eq, TL.tl_join, tl_sp] at h
  rcases mem_joinL h with h | ⟨p, hp, hc⟩
  · revert h
    decide
  · obtain ⟨z, hz, rfl⟩ := List.mem_map.mp hp
    exact (solid_row g f z hz 10 hc).2 rfl
theorem split_rows {many : Nat} {rs : List Str} {ns : List Nd} (h : Rows rs ns) (g : ∀ n ∈ ns, GoodNd many n) (hn : ns ≠ []) : Txt.split (Txt.join sNl rs) sNl = rs := by
  have hne : rs ≠ [] := fun z => hn (List.length_eq_zero_iff.mp (by rw [← h.len, z]; rfl))
  refine TL.split_join (y := sNl) (s := 10) (S := []) tl_nl (by decide +kernel) hne ?_
  clear hn hne
  induction h with
  | nil => exact fun _ hz => nomatch hz
  | @cons n rs ns f _ ih =>
    intro z hz
    rcases List.mem_cons.mp hz with rfl | hz
    · exact row_no_nl (g n List.mem_cons_self) f
    · exact ih (fun y hy => g y (List.mem_cons_of_mem _ hy)) z hz
theorem parse_good {rs : List Str} {ns : List Nd} (h : Rows rs ns) (hn : ns ≠ []) (h8 : ns.length ≤ 8) (g : ∀ n ∈ ns, GoodNd ns.length n) : parseT (Txt.join sNl rs) = some ns := by
  unfold parseT
  rw [split_rows h g hn]
  dsimp only
  rw [h.len, if_pos h8, nodesT_good h g]
end Vf

set_option maxRecDepth 100000
set_option maxHeartbeats 4000000
namespace Vf
open PySem PySem.Spec PyProof.Rows L2
def top (i : Nat) : Stmt := PySem.Challenge.pw_sharedlines_k07_whole_layouts_lead_to_on.main.body.getD i (.Pass ⟨0, 0, 0, 0⟩)
abbrev s_is_integer : Stmt := top 2
abbrev s_is_integer_within : Stmt := top 3
abbrev s_is_name : Stmt := top 4
abbrev s_UnknownCell_init : Stmt := inClass (top 10) 0
abbrev s_Layout_init : Stmt := inClass (top 16) 0
abbrev s_Layout_eq : Stmt := inClass (top 16) 1
abbrev s_Layout_cells : Stmt := inClass (top 16) 2
abbrev s_Layout_line_of : Stmt := inClass (top 16) 3
abbrev s_Layout_moved : Stmt := inClass (top 16) 4
abbrev s_own : Stmt := top 17
abbrev s_all_layouts : Stmt := top 18
abbrev s_check_cells : Stmt := top 19
abbrev s_check_room : Stmt := top 20
abbrev s_are_lines : Stmt := top 21
abbrev s_is_line : Stmt := top 22
abbrev s_filled : Stmt := top 23
abbrev s_with_cell : Stmt := top 24
abbrev s_law_feed : Stmt := top 26
abbrev s_law_take : Stmt := top 27
abbrev s_law_pick : Stmt := top 28
abbrev s_law_word : Stmt := top 29
abbrev s_law_cells : Stmt := top 30
abbrev s_law_moves : Stmt := top 31
abbrev s_law_back : Stmt := top 32
abbrev s_law : Stmt := top 33
-- is_integer: 0:value
abbrev n_is_integer : List Str := ["value"]
abbrev p_is_integer : List Str := ["value"]
theorem sc_is_integer : FnScope n_is_integer p_is_integer (defScope s_is_integer) := ⟨rfl, rfl, rfl, by decide +kernel, rfl, by decide +kernel, by decide +kernel⟩
-- is_integer_within: 0:value 1:low 2:high
abbrev n_is_integer_within : List Str := ["value", "low", "high"]
abbrev p_is_integer_within : List Str := ["value", "low", "high"]
theorem sc_is_integer_within : FnScope n_is_integer_within p_is_integer_within (defScope s_is_integer_within) := ⟨rfl, rfl, rfl, by decide +kernel, rfl, by decide +kernel, by decide +kernel⟩
-- is_name: 0:value 1:letter
abbrev n_is_name : List Str := ["value", "letter"]
abbrev p_is_name : List Str := ["value"]
theorem sc_is_name : FnScope n_is_name p_is_name (defScope s_is_name) := ⟨rfl, rfl, rfl, by decide +kernel, rfl, by decide +kernel, by decide +kernel⟩
-- UnknownCell.__init__: 0:self 1:cell
abbrev n_UnknownCell_init : List Str := ["self", "cell"]
abbrev p_UnknownCell_init : List Str := ["self", "cell"]
-- Layout.__init__: 0:self 1:cells 2:room 3:lines 4:name 5:line 6:number
abbrev n_Layout_init : List Str := ["self", "cells", "room", "lines", "name", "line", "number"]
abbrev p_Layout_init : List Str := ["self", "cells", "room", "lines"]
theorem sc_Layout_init : FnScope n_Layout_init p_Layout_init (defScope s_Layout_init) := ⟨rfl, rfl, rfl, by decide +kernel, rfl, by decide +kernel, by decide +kernel⟩
-- Layout.__eq__: 0:self 1:other
abbrev n_Layout_eq : List Str := ["self", "other"]
abbrev p_Layout_eq : List Str := ["self", "other"]
theorem sc_Layout_eq : FnScope n_Layout_eq p_Layout_eq (defScope s_Layout_eq) := ⟨rfl, rfl, rfl, by decide +kernel, rfl, by decide +kernel, by decide +kernel⟩
-- Layout.cells: 0:self
abbrev n_Layout_cells : List Str := ["self"]
abbrev p_Layout_cells : List Str := ["self"]
theorem sc_Layout_cells : FnScope n_Layout_cells p_Layout_cells (defScope s_Layout_cells) := ⟨rfl, rfl, rfl, by decide +kernel, rfl, by decide +kernel, by decide +kernel⟩
-- Layout.line_of: 0:self 1:cell
abbrev n_Layout_line_of : List Str := ["self", "cell"]
abbrev p_Layout_line_of : List Str := ["self", "cell"]
theorem sc_Layout_line_of : FnScope n_Layout_line_of p_Layout_line_of (defScope s_Layout_line_of) := ⟨rfl, rfl, rfl, by decide +kernel, rfl, by decide +kernel, by decide +kernel⟩
-- Layout.moved: 0:self 1:cell 2:line 3:old 4:lines 5:names
abbrev n_Layout_moved : List Str := ["self", "cell", "line", "old", "lines", "names"]
abbrev p_Layout_moved : List Str := ["self", "cell", "line"]
theorem sc_Layout_moved : FnScope n_Layout_moved p_Layout_moved (defScope s_Layout_moved) := ⟨rfl, rfl, rfl, by decide +kernel, rfl, by decide +kernel, by decide +kernel⟩
-- own: 0:cells 1:room 2:name
abbrev n_own : List Str := ["cells", "room", "name"]
abbrev p_own : List Str := ["cells"]
theorem sc_own : FnScope n_own p_own (defScope s_own) := ⟨rfl, rfl, rfl, by decide +kernel, rfl, by decide +kernel, by decide +kernel⟩
-- all_layouts: 0:cells 1:room 2:ways 3:name 4:longer 5:lines 6:line
abbrev n_all_layouts : List Str := ["cells", "room", "ways", "name", "longer", "lines", "line"]
abbrev p_all_layouts : List Str := ["cells", "room"]
theorem sc_all_layouts : FnScope n_all_layouts p_all_layouts (defScope s_all_layouts) := ⟨rfl, rfl, rfl, by decide +kernel, rfl, by decide +kernel, by decide +kernel⟩
-- _check_cells: 0:cells 1:name 2:size
abbrev n_check_cells : List Str := ["cells", "name", "size"]
abbrev p_check_cells : List Str := ["cells"]
theorem sc_check_cells : FnScope n_check_cells p_check_cells (defScope s_check_cells) := ⟨rfl, rfl, rfl, by decide +kernel, rfl, by decide +kernel, by decide +kernel⟩
-- _check_room: 0:room
abbrev n_check_room : List Str := ["room"]
abbrev p_check_room : List Str := ["room"]
theorem sc_check_room : FnScope n_check_room p_check_room (defScope s_check_room) := ⟨rfl, rfl, rfl, by decide +kernel, rfl, by decide +kernel, by decide +kernel⟩
-- _are_lines: 0:sizes 1:room 2:lines 3:line 4:name
abbrev n_are_lines : List Str := ["sizes", "room", "lines", "line", "name"]
abbrev p_are_lines : List Str := ["sizes", "room", "lines"]
theorem sc_are_lines : FnScope n_are_lines p_are_lines (defScope s_are_lines) := ⟨rfl, rfl, rfl, by decide +kernel, rfl, by decide +kernel, by decide +kernel⟩
-- _is_line: 0:sizes 1:room 2:line 3:name
abbrev n_is_line : List Str := ["sizes", "room", "line", "name"]
abbrev p_is_line : List Str := ["sizes", "room", "line"]
theorem sc_is_line : FnScope n_is_line p_is_line (defScope s_is_line) := ⟨rfl, rfl, rfl, by decide +kernel, rfl, by decide +kernel, by decide +kernel⟩
-- _filled: 0:sizes 1:line 2:name
abbrev n_filled : List Str := ["sizes", "line", "name"]
abbrev p_filled : List Str := ["sizes", "line"]
theorem sc_filled : FnScope n_filled p_filled (defScope s_filled) := ⟨rfl, rfl, rfl, by decide +kernel, rfl, by decide +kernel, by decide +kernel⟩
-- _with_cell: 0:sizes 1:room 2:lines 3:name 4:ways 5:number 6:line 7:longer
abbrev n_with_cell : List Str := ["sizes", "room", "lines", "name", "ways", "number", "line", "longer"]
abbrev p_with_cell : List Str := ["sizes", "room", "lines", "name"]
theorem sc_with_cell : FnScope n_with_cell p_with_cell (defScope s_with_cell) := ⟨rfl, rfl, rfl, by decide +kernel, rfl, by decide +kernel, by decide +kernel⟩
-- _law_feed: 0:script 1:k 2:cell 3:digits 4:state
abbrev n_law_feed : List Str := ["script", "k", "cell", "digits", "state"]
abbrev p_law_feed : List Str := ["script", "k"]
theorem sc_law_feed : FnScope n_law_feed p_law_feed (defScope s_law_feed) := ⟨rfl, rfl, rfl, by decide +kernel, rfl, by decide +kernel, by decide +kernel⟩
-- _law_take: 0:feed 1:many 2:digit
abbrev n_law_take : List Str := ["feed", "many", "digit"]
abbrev p_law_take : List Str := ["feed", "many"]
theorem sc_law_take : FnScope n_law_take p_law_take (defScope s_law_take) := ⟨rfl, rfl, rfl, by decide +kernel, rfl, by decide +kernel, by decide +kernel⟩
-- _law_pick: 0:feed 1:some
abbrev n_law_pick : List Str := ["feed", "some"]
abbrev p_law_pick : List Str := ["feed", "some"]
theorem sc_law_pick : FnScope n_law_pick p_law_pick (defScope s_law_pick) := ⟨rfl, rfl, rfl, by decide +kernel, rfl, by decide +kernel, by decide +kernel⟩
-- _law_word: 0:feed 1:found 2:turn
abbrev n_law_word : List Str := ["feed", "found", "turn"]
abbrev p_law_word : List Str := ["feed"]
theorem sc_law_word : FnScope n_law_word p_law_word (defScope s_law_word) := ⟨rfl, rfl, rfl, by decide +kernel, rfl, by decide +kernel, by decide +kernel⟩
-- _law_cells: 0:feed 1:most 2:names 3:sizes 4:pairs 5:turn 6:name
abbrev n_law_cells : List Str := ["feed", "most", "names", "sizes", "pairs", "turn", "name"]
abbrev p_law_cells : List Str := ["feed", "most"]
theorem sc_law_cells : FnScope n_law_cells p_law_cells (defScope s_law_cells) := ⟨rfl, rfl, rfl, by decide +kernel, rfl, by decide +kernel, by decide +kernel⟩
-- _law_moves: 0:layout 1:found 2:cell 3:line 4:told 5:error
abbrev n_law_moves : List Str := ["layout", "found", "cell", "line", "told", "error"]
abbrev p_law_moves : List Str := ["layout"]
theorem sc_law_moves : FnScope n_law_moves p_law_moves (defScope s_law_moves) := ⟨rfl, rfl, rfl, by decide +kernel, rfl, by decide +kernel, by decide +kernel⟩
-- _law_back: 0:layout 1:cell 2:other 3:mine 4:name
abbrev n_law_back : List Str := ["layout", "cell", "other", "mine", "name"]
abbrev p_law_back : List Str := ["layout", "cell", "other"]
theorem sc_law_back : FnScope n_law_back p_law_back (defScope s_law_back) := ⟨rfl, rfl, rfl, by decide +kernel, rfl, by decide +kernel, by decide +kernel⟩
-- law: 0:script 1:k 2:feed 3:cells 4:sizes 5:whole 6:low 7:room 8:every 9:lines 10:links 11:layout 12:there 13:cell 14:other 15:seen 16:waiting 17:one 18:last 19:name
abbrev n_law : List Str := ["script", "k", "feed", "cells", "sizes", "whole", "low", "room", "every", "lines", "links", "layout", "there", "cell", "other", "seen", "waiting", "one", "last", "name"]
abbrev p_law : List Str := ["script"]
theorem sc_law : FnScope n_law p_law (defScope s_law) := ⟨rfl, rfl, rfl, by decide +kernel, rfl, by decide +kernel, by decide +kernel⟩
def OkF (P : Program) (w : World) (K : PySem.W.Frag) (mg : Str → Option Value) (base : Heap) (CX : CXT) (x : Str) (ps : List Str) (k : Nat) (sp : Sp) : Prop :=
  ∃ (f : Addr) (fd : FuncData), mg x = some (.ref f) ∧ PySem.W.keepIn K (.ref f) = true ∧ Binds K fd ps [] ∧ FnOk P w K mg base CX k f fd ps sp
theorem pe_fn {X : Cx} {CX : CXT} {x : Str} {ps : List Str} {k : Nat} {sp : Sp} {E : XK} {e : Expr} {es : List Expr} {t : TA} {p pos : Pos} (G : OkF X.prog X.w X.K X.mg X.base CX x ps k sp) (hr : Room k X.A) (hg : Gl X x) (hx : Passes CX X E)
    (ha : PA X (e :: es) t) (hdb : (x == ("__debug__" : Str)) = false := by decide) (he : starEach (e :: es) X.env = (false, eval e X.env) :: starEach es X.env := by rfl) (hpl : (backTo pos (starEach es X.env)).any (·.1) = false := by rfl) :
    PE X (.Call (.Name x p) (e :: es) [] pos) (tCall sp [] E t) := by
  obtain ⟨f, fd, hm, hk, hb, F⟩ := G
  exact pe_call F hr hg hm hk hb .nil hx ha hdb he hpl
/-- what the top leaves: names that are still the built-ins, constants -/
structure Txt0 (K : PySem.W.Frag) (mg : Str → Option Value) : Prop where
  len : mg "len" = none
  isinstance : mg "isinstance" = none
  all : mg "all" = none
  str : mg "str" = none
  int : mg "int" = none
  bool : mg "bool" = none
  dict : mg "dict" = none
  list : mg "list" = none
  sum : mg "sum" = none
  longest : ∃ t, mg "LONGEST_NAME" = some (.int 8 t)
  cells : ∃ t, mg "MOST_CELLS" = some (.int 6 t)
  size : ∃ t, mg "LARGEST_SIZE" = some (.int 8 t)
  room : ∃ t, mg "LARGEST_ROOM" = some (.int 32 t)
  sorted : mg "sorted" = none
  tuple : mg "tuple" = none
  enumerate : mg "enumerate" = none
  max : mg "max" = none
end Vf

set_option maxRecDepth 100000
set_option maxHeartbeats 4000000
namespace Vf
open PySem PySem.Spec PyProof.Rows L2
section
variable {P : Program} {w : World} {K : PySem.W.Frag} {mg : Str → Option Value} {base : Heap}
theorem lt_one (a b : Nat) : (decide ([a] < [b]) : Bool) = decide (a < b) := by
  refine decide_eq_decide.mpr ⟨fun q => ?_, fun h => List.Lex.rel h⟩
  cases q with
  | rel q => exact q
  | cons q => cases q
theorem cps_size (z : Str) : z.cps.toList.length = z.length := by simp [Str.length]
/-- is_name(text) -/
def sp_is_name : Sp := fun vs H Q _ => ∃ z : Str, vs = [.str z] ∧ z.length ≤ 1000000 ∧ ∀ H', Same H H' → Q (.bl (isNameT z)) H'
theorem ok_is_name {f : Addr} {fd : FuncData} (F : Fun K "is_name" "is_name" s_is_name f fd) (T : Txt0 K mg) : FnOk P w K mg base CX0 1 f fd p_is_name sp_is_name := by
  refine F.ok sc_is_name (fun vs H Q E h => ?_) (fun cdv A outer s H vs Q E hr h => ?_)
  · obtain ⟨z, rfl, _⟩ := h
    rfl
  · obtain ⟨z, rfl, hz, k⟩ := h
    obtain ⟨t8, e8⟩ := T.longest
    refine ⟨_, pss_cons (ps_if (PW.pt (pw_or (pt_not (pt_val (pe_callB call_isi (by rfl) T.isinstance boot_isinstance (pa_cons (pv 0) (pa_cons (pe_bltn (by rfl) T.str boot_str (v := .ty "str") rfl) pa_nil)))))
        (pw_or1 (pt_not (pt_chain op_le op_le pe_int (pe_callB call_len_str (by rfl) T.len PySem.boot_len (pa_cons (pv 0) pa_nil)) (pe_glob (v := .int 8) rfl e8 ⟨_, rfl⟩))))))
        (pss_one (ps_ret pe_bl)) pss_nil)
      (pss_one (ps_ret (pe_callB (cr_all rfl) (by rfl) T.all (by decide +kernel)
        (pa_cons (pe_lc (own := [("letter", 1)]) (g := gName 1) (tt := tYes) rfl sc_is_name.nd (pi_str (pv 0)) (blkOk_by (N := n_is_name) (sc := defScope s_is_name) (by decide +kernel))
          (fun _ _ _ _ _ => pg_name (i := 1) sc_is_name.nd rfl (Or.inl rfl)) (fun _ _ _ _ _ => pts_nil)
          (fun _ _ _ _ _ => pe_chain op_le_str op_le_str pe_str (pv 1) pe_str)) pa_nil)))), ?_⟩
    have hzl : z.length ≤ sizeLine := Nat.le_trans hz (by decide)
    refine ⟨_, rfl, _, _, _, _, true, rfl, .ty _, .base (.str _), kit_ty (by decide +kernel), _, rfl, iteF ?_⟩
    refine ⟨_, rfl, z, rfl, hzl, 1, (z.length : Int), rfl, rfl, decide ((1 : Int) ≤ z.length), rfl, ?_⟩
    have out : isNameT z = false → Q (.bl false) H := fun e => e ▸ k H (Same.refl H)
    by_cases h1 : (1 : Int) ≤ z.length
    case neg =>
      rw [decide_eq_false h1]
      refine iteF ⟨_, rfl, iteT (out ?_)⟩
      unfold isNameT
      rw [decide_eq_false (by omega)]
      rfl
    rw [decide_eq_true h1]
    refine iteT ⟨_, _, rfl, rfl, ⟨_, rfl, ?_⟩⟩
    by_cases h2 : (z.length : Int) ≤ 8
    case neg =>
      rw [decide_eq_false h2]
      refine iteT (out ?_)
      unfold isNameT
      rw [decide_eq_false (p := z.length ≤ 8) (by omega), Bool.and_false]
      rfl
    rw [decide_eq_true h2]
    refine iteF ?_
    have wz : Walk (Its z) z.cps.toList.length (fun _ => True) (fun i H v H' => H' = H ∧ ∃ c, z.cps[i]? = some c ∧ v = .str ⟨#[c]⟩) := by
      rw [cps_size]
      exact walk_str
    refine ⟨_, rfl, z, rfl, fun D hD => lc_mp z.cps.toList wz hD (fun c => .bl (decide (97 ≤ c) && decide (c ≤ 122))) (by rw [cps_size]; omega) (fun _ _ => trivial) ?_ ?_⟩
    · rintro i c x H2 H3 hc s2 ⟨rfl, c', hc', rfl⟩ R hR
      obtain rfl : c' = c := by
        rw [Array.getElem?_toList] at hc
        exact Option.some.inj (hc'.symm.trans hc)
      have ea : ("a" : Str).cps.toList = [97] := by decide +kernel
      have ez : ("z" : Str).cps.toList = [122] := by decide +kernel
      refine ⟨rfl, _, rfl, _, _, rfl, rfl, _, rfl, ?_⟩
      have e1 : (!decide ([c'] < ("a" : Str).cps.toList)) = decide (97 ≤ c') := by
        rw [ea, lt_one, ← decide_not]
        exact decide_eq_decide.mpr Nat.not_lt
      have e2 : (!decide (("z" : Str).cps.toList < [c'])) = decide (c' ≤ 122) := by
        rw [ez, lt_one, ← decide_not]
        exact decide_eq_decide.mpr Nat.not_lt
      show if (!decide ([c'] < ("a" : Str).cps.toList)) = true then _ else _
      rw [e1]
      have hk := hR H3 (Same.refl H3)
      by_cases g1 : 97 ≤ c'
      · rw [decide_eq_true g1, Bool.true_and] at hk
        rw [decide_eq_true g1]
        refine iteT ⟨_, _, rfl, rfl, ?_⟩
        show R (.bl (!decide (("z" : Str).cps.toList < [c']))) H3
        rw [e2]
        exact hk
      · rw [decide_eq_false g1, Bool.false_and] at hk
        rw [decide_eq_false g1]
        exact iteF hk
    · intro H2 s2 hL
      refine ⟨D, z.cps.toList.map fun c => decide (97 ≤ c) && decide (c ≤ 122), rfl, ?_, ?_⟩
      · rw [List.map_map]
        exact SqL.of hL
      · rw [List.all_map]
        have e : isNameT z = (z.cps.toList.all fun c => decide (97 ≤ c) && decide (c ≤ 122)) := by
          unfold isNameT
          rw [decide_eq_true (p := 1 ≤ z.length) (by omega), decide_eq_true (p := z.length ≤ 8) (by omega), Bool.true_and, Bool.true_and]
        have q := k H2 s2
        rw [e] at q
        exact q
end
end Vf

set_option maxRecDepth 100000
set_option maxHeartbeats 4000000
namespace Vf
open PySem PySem.Spec PyProof.Rows L2
mutual
def plainD : PyData → Bool
  | .none => true
  | .bool _ => false
  | .int _ => true
  | .str x => PyData.strOk x
  | .list xs => plainAll xs
  | .tuple xs => plainAll xs
  | .dict _ => false
def plainAll : List PyData → Bool
  | [] => true
  | x :: xs => plainD x && plainAll xs
end
mutual
theorem eqv_iff : ∀ d e : PyData, plainD d = true → plainD e = true → (PyData.eqv d e = true ↔ d = e)
  | .bool _, _, h, _ => by simp [plainD] at h
  | .dict _, _, h, _ => by simp [plainD] at h
  | .none, e, _, h => by cases e <;> simp_all [PyData.eqv, plainD]
  | .int i, e, _, h => by cases e <;> simp_all [PyData.eqv, plainD]
  | .str x, e, _, h => by cases e <;> simp_all [PyData.eqv, plainD]
  | .list xs, e, h1, h => by
    cases e with
    | list ys =>
      have := eqvAll_iff xs ys (by simpa [plainD] using h1) (by simpa [plainD] using h)
      simp only [PyData.eqv, PyData.list.injEq]
      exact this
    | _ => simp_all [PyData.eqv, plainD]
  | .tuple xs, e, h1, h => by
    cases e with
    | tuple ys =>
      have := eqvAll_iff xs ys (by simpa [plainD] using h1) (by simpa [plainD] using h)
      simp only [PyData.eqv, PyData.tuple.injEq]
      exact this
    | _ => simp_all [PyData.eqv, plainD]
theorem eqvAll_iff : ∀ xs ys : List PyData, plainAll xs = true → plainAll ys = true → (PyData.eqvAll xs ys = true ↔ xs = ys)
  | [], [], _, _ => by simp [PyData.eqvAll]
  | [], _ :: _, _, _ => by simp [PyData.eqvAll]
  | _ :: _, [], _, _ => by simp [PyData.eqvAll]
  | x :: xs, y :: ys, h1, h2 => by
    simp only [plainAll, Bool.and_eq_true] at h1 h2
    simp only [PyData.eqvAll, Bool.and_eq_true, List.cons.injEq, eqv_iff x y h1.1 h2.1, eqvAll_iff xs ys h1.2 h2.2]
end
mutual
theorem canLay_plain : ∀ d : PyData, plainD d = true → d.canLay0 = true
  | .none, _ => by simp [PyData.canLay0]
  | .bool _, h => by simp [plainD] at h
  | .int _, _ => by simp [PyData.canLay0]
  | .str x, h => by simpa [PyData.canLay0, plainD] using h
  | .list xs, h => by
    simp only [PyData.canLay0]
    exact canLayAll_plain xs (by simpa [plainD] using h)
  | .tuple xs, h => by
    simp only [PyData.canLay0]
    exact canLayAll_plain xs (by simpa [plainD] using h)
  | .dict _, h => by simp [plainD] at h
theorem canLayAll_plain : ∀ xs : List PyData, plainAll xs = true → PyData.canLayAll0 xs = true
  | [], _ => by simp [PyData.canLayAll0]
  | x :: xs, h => by
    simp only [plainAll, Bool.and_eq_true] at h
    simp only [PyData.canLayAll0, Bool.and_eq_true]
    exact ⟨canLay_plain x h.1, canLayAll_plain xs h.2⟩
end
theorem shaped_of {d : PyData} (h : plainD d = true) (hd : d.depth ≤ 64) : SeqAt.shaped d = true := by
  unfold SeqAt.shaped
  rw [canLay_plain d h, decide_eq_true hd]
  rfl
theorem eqv_dec {d e : PyData} {p : Prop} [Decidable p] (h1 : plainD d = true) (h2 : plainD e = true) (hp : d = e ↔ p) : PyData.eqv d e = decide p := by
  by_cases h : p
  · rw [decide_eq_true h]
    exact (eqv_iff d e h1 h2).mpr (hp.mpr h)
  · rw [decide_eq_false h]
    cases q : PyData.eqv d e with
    | false => rfl
    | true => exact absurd (hp.mp ((eqv_iff d e h1 h2).mp q)) h
theorem plain_ints : ∀ ns : List Int, plainAll (ns.map PyData.int) = true
  | [] => rfl
  | n :: ns => by simp only [List.map_cons, plainAll, plainD, Bool.true_and, plain_ints ns]
theorem depth_ints : ∀ ns : List Int, PyData.depthAll (ns.map PyData.int) = 0
  | [] => rfl
  | n :: ns => by simp only [List.map_cons, PyData.depthAll, PyData.depth, depth_ints ns, Nat.max_self]
theorem dp_ints {K : PySem.W.Frag} {H : Hp} : ∀ ns : List Int, DpAll K H (ns.map V.int) (ns.map PyData.int)
  | [] => .nil
  | n :: ns => .cons (.int n) (dp_ints ns)
theorem map_int_inj {a b : List Int} : PyData.list (a.map PyData.int) = PyData.list (b.map PyData.int) ↔ a = b := by
  refine ⟨fun h => ?_, fun h => by rw [h]⟩
  have h' : a.map PyData.int = b.map PyData.int := by injection h
  clear h
  induction a generalizing b with
  | nil => cases b <;> simp_all
  | cons x a ih =>
    cases b with
    | nil => cases h'
    | cons y b =>
      rw [List.map_cons, List.map_cons] at h'
      injection h' with h1 h2
      injection h1 with h3
      rw [h3, ih h2]
theorem shaped_ints (ns : List Int) : SeqAt.shaped (.list (ns.map PyData.int)) = true :=
  shaped_of (by simp only [plainD, plain_ints]) (by simp only [PyData.depth, depth_ints]; decide)
theorem eqv_ints (a b : List Int) : PyData.eqv (.list (a.map PyData.int)) (.list (b.map PyData.int)) = decide (a = b) :=
  eqv_dec (by simp only [plainD, plain_ints]) (by simp only [plainD, plain_ints]) map_int_inj
theorem rises_iff : ∀ l : List Nat, rises l = true ↔ l.Pairwise (· < ·)
  | [] => by simp [rises]
  | [a] => by simp [rises]
  | a :: b :: r => by
    have ih := rises_iff (b :: r)
    simp only [rises, Bool.and_eq_true, decide_eq_true_eq, ih]
    constructor
    · rintro ⟨h1, h2⟩
      refine List.pairwise_cons.mpr ⟨fun x hx => ?_, h2⟩
      rcases List.mem_cons.mp hx with rfl | hx
      · exact h1
      · exact Nat.lt_trans h1 ((List.pairwise_cons.mp h2).1 x hx)
    · intro h
      exact ⟨(List.pairwise_cons.mp h).1 b List.mem_cons_self, (List.pairwise_cons.mp h).2⟩
theorem sorted_same : ∀ {a b : List Int}, a.Pairwise (· < ·) → b.Pairwise (· < ·) → (∀ x, x ∈ a ↔ x ∈ b) → a = b
  | [], [], _, _, _ => rfl
  | [], y :: b, _, _, h => absurd ((h y).mpr List.mem_cons_self) (by simp)
  | x :: a, [], _, _, h => absurd ((h x).mp List.mem_cons_self) (by simp)
  | x :: a, y :: b, ha, hb, h => by
    have a1 := List.pairwise_cons.mp ha
    have b1 := List.pairwise_cons.mp hb
    have e : x = y := by
      rcases List.mem_cons.mp ((h x).mp List.mem_cons_self) with e | e
      · exact e
      · rcases List.mem_cons.mp ((h y).mpr List.mem_cons_self) with e2 | e2
        · exact e2.symm
        · have := b1.1 x e
          have := a1.1 y e2
          omega
    subst e
    rw [sorted_same a1.2 b1.2 fun z => ?_]
    constructor
    · intro hz
      rcases List.mem_cons.mp ((h z).mp (List.mem_cons_of_mem _ hz)) with e | e
      · have := a1.1 z hz
        omega
      · exact e
    · intro hz
      rcases List.mem_cons.mp ((h z).mpr (List.mem_cons_of_mem _ hz)) with e | e
      · have := b1.1 z hz
        omega
      · exact e
/-- a list of numbers is its own sorted set just if it rises -/
theorem rises_set {ts : List Nat} {ns : List Int} (hs : ns.Pairwise (· < ·)) (hm : ∀ k : Int, k ∈ ns ↔ k ∈ ts.map Int.ofNat) : ts.map Int.ofNat = ns ↔ rises ts = true := by
  rw [rises_iff]
  have hp : (ts.map Int.ofNat).Pairwise (· < ·) ↔ ts.Pairwise (· < ·) := by
    rw [List.pairwise_map]
    constructor <;> intro h <;> refine h.imp fun {a b} q => ?_
    · exact Int.ofNat_lt.mp q
    · exact Int.ofNat_lt.mpr q
  rw [← hp]
  constructor
  · intro e
    rw [e]
    exact hs
  · intro h
    exact sorted_same h hs fun x => (hm x).symm
end Vf

set_option maxRecDepth 100000
set_option maxHeartbeats 4000000
namespace Vf
open PySem PySem.Spec PyProof.Rows L2
theorem contains_iff {x y : Str} : Txt.contains x y = true ↔ ∃ a b : List Nat, TL.tl x = a ++ (TL.tl y ++ b) := by
  unfold Txt.contains
  rw [PySem.StrLaws.found_iff]
  constructor
  · rintro ⟨i, h1, h2⟩
    rw [PySem.StrLaws.subAt_eq, beq_iff_eq] at h2
    refine ⟨(TL.tl x).take i, ((TL.tl x).drop i).drop y.length, ?_⟩
    have h3 : ((TL.tl x).drop i).take y.length = TL.tl y := h2
    rw [← h3, List.take_append_drop, List.take_append_drop]
  · rintro ⟨a, b, e⟩
    refine ⟨a.length, ?_, ?_⟩
    · rw [TL.len_tl, TL.len_tl, e]
      simp only [List.length_append]
      omega
    · rw [PySem.StrLaws.subAt_eq, beq_iff_eq]
      show ((TL.tl x).drop a.length).take y.length = TL.tl y
      rw [e, List.drop_left, TL.len_tl, List.take_left]
/-- y in x, both texts -/
def rInT : R2 := fun x y H Q => ∃ a b : Str, x = .str a ∧ y = .str b ∧ Q (.bl (Txt.contains b a)) H
theorem op_inT {X : Cx} : OpR X (compareOp .In) rInT := by
  intro pins s σ H x y v u Q I rx ry h
  obtain ⟨a, b, rfl, rfl, q⟩ := h
  obtain ⟨t, rfl⟩ := rx
  obtain ⟨t', rfl⟩ := ry
  exact PyProof.Rows.in_str ⟨.bl (Txt.contains b a), H, I, rfl, q⟩
end Vf

set_option maxRecDepth 100000
set_option maxHeartbeats 8000000
namespace Vf
open PySem PySem.Spec PyProof.Rows L2
/-- cells with sizes, as a dict -/
def cellKv (cs : List (Str × Nat)) : List (Key × V) := cs.map fun p => (Sum.inr p.1, V.int (p.2 : Int))
structure GoodCs (cs : List (Str × Nat)) : Prop where
  some : cs ≠ []
  few : cs.length ≤ 6
  name : ∀ p ∈ cs, isNameT p.1 = true
  size : ∀ p ∈ cs, 1 ≤ p.2 ∧ p.2 ≤ 8
  nd : (cs.map Prod.fst).Nodup
section
variable {P : Program} {w : World} {K : PySem.W.Frag} {mg : Str → Option Value} {base : Heap}
def sp_is_int : Sp := fun vs H Q _ => ∃ v : Int, vs = [.int v] ∧ Q (.bl true) H
theorem ok_is_int {f : Addr} {fd : FuncData} (F : Fun K "is_integer" "is_integer" s_is_integer f fd) (T : Txt0 K mg) : FnOk P w K mg base CX0 1 f fd p_is_integer sp_is_int := by
  refine F.ok sc_is_integer (fun vs H Q E h => ?_) (fun cdv A outer s H vs Q E hr h => ?_)
  · obtain ⟨v, rfl, _⟩ := h
    rfl
  · obtain ⟨v, rfl, k⟩ := h
    refine ⟨_, pss_one (ps_ret (pe_and (ta := tCB (rIsi K) (tCons (tVar 0) (tCons (tC (.ty "int")) tNil))) (pe_callB call_isi (by rfl) T.isinstance boot_isinstance (pa_cons (pv 0) (pa_cons (pe_bltn (by rfl) T.int (by decide +kernel) (v := .ty "int") rfl) pa_nil)))
        (pe_one (pe_not (ta := tCB (rIsi K) (tCons (tVar 0) (tCons (tC (.ty "bool")) tNil))) (pe_callB call_isi (by rfl) T.isinstance boot_isinstance (pa_cons (pv 0) (pa_cons (pe_bltn (by rfl) T.bool (by decide +kernel) (v := .ty "bool") rfl) pa_nil))))))), ?_⟩
    refine ⟨_, rfl, _, _, _, _, true, rfl, .ty _, .base (.int _), kit_ty (by decide +kernel), true, rfl, iteT ?_⟩
    exact ⟨_, rfl, _, _, _, _, false, rfl, .ty _, .base (.int _), kit_ty (by decide +kernel), _, rfl, k⟩
def sp_within : Sp := fun vs H Q _ => ∃ v lo hi : Int, vs = [.int v, .int lo, .int hi] ∧ Q (.bl (decide (lo ≤ v) && decide (v ≤ hi))) H
theorem ok_within {f : Addr} {fd : FuncData} (F : Fun K "is_integer_within" "is_integer_within" s_is_integer_within f fd) (GI : OkF P w K mg base CX0 "is_integer" p_is_integer 1 sp_is_int) : FnOk P w K mg base CX0 2 f fd p_is_integer_within sp_within := by
  refine F.ok sc_is_integer_within (fun vs H Q E h => ?_) (fun cdv A outer s H vs Q E hr h => ?_)
  · obtain ⟨v, lo, hi, rfl, _⟩ := h
    rfl
  · obtain ⟨v, lo, hi, rfl, k⟩ := h
    refine ⟨_, pss_one (ps_ret (pe_and (ta := tCall sp_is_int [] E0 (tCons (tVar 0) tNil)) (pe_fn GI hr rfl pass0 (pa_cons (pv 0) pa_nil)) (pe_one (pe_chain op_le op_le (pv 1) (pv 0) (pv 2))))), ?_⟩
    refine ⟨_, rfl, v, rfl, true, rfl, iteT ⟨_, rfl, _, rfl, lo, v, rfl, rfl, decide (lo ≤ v), rfl, ?_⟩⟩
    by_cases h1 : lo ≤ v
    · rw [decide_eq_true h1] at k ⊢
      rw [Bool.true_and] at k
      exact iteT ⟨_, rfl, _, _, rfl, rfl, k⟩
    · rw [decide_eq_false h1] at k ⊢
      rw [Bool.false_and] at k
      exact iteF k
def sp_check_room : Sp := fun vs H Q _ => ∃ r : Nat, vs = [.int (r : Int)] ∧ 1 ≤ r ∧ r ≤ 32 ∧ Q .non H
theorem ok_check_room {f : Addr} {fd : FuncData} (F : Fun K "_check_room" "_check_room" s_check_room f fd) (T : Txt0 K mg) (GI : OkF P w K mg base CX0 "is_integer_within" p_is_integer_within 2 sp_within) : FnOk P w K mg base CX0 3 f fd p_check_room sp_check_room := by
  refine F.ok sc_check_room (fun vs H Q E h => ?_) (fun cdv A outer s H vs Q E hr h => ?_)
  · obtain ⟨r, rfl, _⟩ := h
    rfl
  · obtain ⟨r, rfl, h1, h2, k⟩ := h
    obtain ⟨t, er⟩ := T.room
    refine ⟨_, pss_one (ps_if (pt_not (pt_val (pe_fn GI hr rfl pass0 (pa_cons (pv 0) (pa_cons pe_int (pa_cons (pe_glob (v := .int 32) rfl er ⟨_, rfl⟩) pa_nil)))))) (pss_one ps_never) pss_nil), ?_⟩
    refine ⟨_, rfl, (r : Int), 1, 32, rfl, _, rfl, ?_⟩
    rw [decide_eq_true (p := (1 : Int) ≤ r) (by omega), decide_eq_true (p := (r : Int) ≤ 32) (by omega)]
    exact iteF k
end
end Vf

set_option maxRecDepth 100000
set_option maxHeartbeats 8000000
namespace Vf
open PySem PySem.Spec PyProof.Rows L2
def sizeOf? (cs : List (Str × Nat)) (z : Str) : Option Nat := (cs.find? fun p => decide (p.1 = z)).map (·.2)
def sizeOfD (cs : List (Str × Nat)) (z : Str) : Nat := (sizeOf? cs z).getD 0
theorem valV_cells {cs : List (Str × Nat)} {z : Str} : valV (cellKv cs) (Sum.inr z) = (sizeOf? cs z).map fun (k : Nat) => V.int (k : Int) := by
  unfold cellKv sizeOf?
  induction cs with
  | nil => rfl
  | cons p l ih =>
    rw [List.map_cons, List.find?_cons]
    by_cases h : p.1 = z
    · rw [decide_eq_true h, valV_pos (by rw [h])]
      rfl
    · rw [decide_eq_false h, valV_neg (fun e => h (Sum.inr.inj e)), ih]
theorem size_some {cs : List (Str × Nat)} {z : Str} (h : z ∈ cs.map Prod.fst) : sizeOf? cs z = some (sizeOfD cs z) := by
  unfold sizeOfD
  cases e : sizeOf? cs z with
  | some k => rfl
  | none =>
    unfold sizeOf? at e
    rw [Option.map_eq_none_iff, List.find?_eq_none] at e
    obtain ⟨p, hp, rfl⟩ := List.mem_map.mp h
    exact absurd (decide_eq_true rfl) (e p hp)
theorem size_le {cs : List (Str × Nat)} (g : GoodCs cs) (z : Str) : sizeOfD cs z ≤ 8 := by
  unfold sizeOfD sizeOf?
  cases e : cs.find? fun p => decide (p.1 = z) with
  | none => simp
  | some p => exact (g.size p (List.mem_of_find?_eq_some e)).2
def total (cs : List (Str × Nat)) (ws : List Str) : Nat := (ws.map (sizeOfD cs)).sum
section
variable {P : Program} {w : World} {K : PySem.W.Frag} {mg : Str → Option Value} {base : Heap}
def sp_filled (K : PySem.W.Frag) : Sp := fun vs H Q _ => ∃ (d l : Addr) (cs : List (Str × Nat)) (ws : List Str), vs = [.ref d, .ref l] ∧ H d = some (.dK (cellKv cs)) ∧ SqL K H l (ws.map V.str) ∧ ws.length ≤ 1000 ∧ (∀ z ∈ ws, z ∈ cs.map Prod.fst) ∧ ∀ H', Same H H' → Q (.int (total cs ws : Nat)) H'
theorem ok_filled {f : Addr} {fd : FuncData} (F : Fun K "_filled" "_filled" s_filled f fd) (T : Txt0 K mg) : FnOk P w K mg base CX0 1 f fd p_filled (sp_filled K) := by
  refine F.ok sc_filled (fun vs H Q E h => ?_) (fun cdv A outer s H vs Q E hr h => ?_)
  · obtain ⟨d, l, cs, ws, rfl, _⟩ := h
    rfl
  · obtain ⟨d, l, cs, ws, rfl, hd, hl, few, hin, k⟩ := h
    refine ⟨_, pss_one (ps_ret (pe_callB (cr_sum rfl) (by rfl) T.sum (by decide +kernel) (pa_cons (pe_lc (own := [("name", 2)]) (g := gName 2) (tt := tYes) rfl sc_filled.nd (pi_list (pv 1)) (blkOk_by (N := n_filled) (sc := defScope s_filled) (by decide +kernel))
        (fun _ _ _ _ _ => pg_name (i := 2) sc_filled.nd rfl (Or.inl rfl)) (fun _ _ _ _ _ => pts_nil) (fun _ _ _ _ _ => pe_dget (hu_of hr) (pv 0) (pv 2) (fun _ _ => rfl))) pa_nil))), ?_⟩
    refine ⟨_, rfl, l, rfl, ⟨_, hl⟩, fun D hD => lc_mp ws (walk_list (K := K) (a := l) (xs := ws.map V.str) |> fun z => by rw [List.length_map] at z; exact z) hD (fun z => .int (sizeOfD cs z : Nat)) (by omega) (fun H5 s5 => ?_) ?_ ?_⟩
    · rcases hl with (h | ⟨o, h⟩) | h
      · exact .inl (.inl (s5 _ _ h))
      · exact .inl (.inr ⟨o, s5 _ _ h⟩)
      · exact .inr h
    · rintro j z x H2 H3 hj s2 ⟨rfl, hx⟩ R hR
      rw [List.getElem?_map, hj] at hx
      obtain rfl : V.str z = x := Option.some.inj hx
      have hz := size_some (hin z (List.mem_of_getElem? hj))
      have gg := DGet.k (k := Sum.inr z) (s2 _ _ hd)
      rw [valV_cells, hz] at gg
      exact ⟨rfl, _, rfl, _, rfl, d, _, rfl, gg, hR _ (Same.refl _)⟩
    · intro H2 s2 hL
      refine ⟨D, ws.map fun z => ((sizeOfD cs z : Nat) : Int), rfl, SqL.of (by rw [hL, List.map_map]; rfl), ?_⟩
      have e : (ws.map fun z => ((sizeOfD cs z : Nat) : Int)).sum = ((total cs ws : Nat) : Int) := by
        unfold total
        clear hin hl few k hL
        induction ws with
        | nil => rfl
        | cons z r ih =>
          rw [List.map_cons, List.map_cons, List.sum_cons, List.sum_cons, ih]
          omega
      rw [e]
      exact k _ s2
end
end Vf

set_option maxRecDepth 100000
set_option maxHeartbeats 8000000
namespace Vf
open PySem PySem.Spec PyProof.Rows L2
section
variable {P : Program} {w : World} {K : PySem.W.Frag} {mg : Str → Option Value} {base : Heap}
def sp_is_line : Sp := fun vs H Q _ => ∃ (d l : Addr) (cs : List (Str × Nat)) (r : Nat) (ws : List Str), vs = [.ref d, .int (r : Int), .ref l] ∧ H d = some (.dK (cellKv cs)) ∧ H l = some (.lst (ws.map V.str)) ∧ ws ≠ [] ∧ ws.length ≤ 1000 ∧ (∀ z ∈ ws, z ∈ cs.map Prod.fst) ∧
  ∀ H', Same H H' → Q (.bl (decide (total cs ws ≤ r))) H'
theorem ok_is_line {f : Addr} {fd : FuncData} (F : Fun K "_is_line" "_is_line" s_is_line f fd) (T : Txt0 K mg) (GF : OkF P w K mg base CX0 "_filled" p_filled 1 (sp_filled K)) : FnOk P w K mg base CX0 2 f fd p_is_line sp_is_line := by
  refine F.ok sc_is_line (fun vs H Q E h => ?_) (fun cdv A outer s H vs Q E hr h => ?_)
  · obtain ⟨d, l, cs, r, ws, rfl, _⟩ := h
    rfl
  · obtain ⟨d, l, cs, r, ws, rfl, hd, hl, hne, few, hin, k⟩ := h
    refine ⟨_, pss_cons (ps_if (PW.pt (pw_or (pt_not (pt_val (pe_callB call_isi (by rfl) T.isinstance boot_isinstance (pa_cons (pv 2) (pa_cons (pe_bltn (by rfl) T.list (by decide +kernel) (v := .ty "list") rfl) pa_nil)))))
        (pw_or1 (pt_cmpR op_eq (pe_callB call_len_seq (by rfl) T.len PySem.boot_len (pa_cons (pv 2) pa_nil)) pe_int (nomark _))))) (pss_one ps_never) pss_nil)
      (pss_cons (ps_if (pt_not (pt_val (pe_callB (cr_all rfl) (by rfl) T.all (by decide +kernel) (pa_cons (pe_lc (own := [("name", 3)]) (g := gName 3) (tt := tYes) rfl sc_is_line.nd (pi_list (pv 2)) (blkOk_by (N := n_is_line) (sc := defScope s_is_line) (by decide +kernel))
          (fun _ _ _ _ _ => pg_name (i := 3) sc_is_line.nd rfl (Or.inl rfl)) (fun _ _ _ _ _ => pts_nil)
          (fun _ _ _ _ _ => pe_and (ta := tCB (rIsi K) (tCons (tVar 3) (tCons (tC (.ty "str")) tNil))) (pe_callB call_isi (by rfl) T.isinstance boot_isinstance (pa_cons (pv 3) (pa_cons (pe_bltn (by rfl) T.str boot_str (v := .ty "str") rfl) pa_nil))) (pe_one (pe_cmp (pc_din (hu_of hr) (pv 3) (pv 0)))))) pa_nil)))) (pss_one ps_never) pss_nil)
      (pss_one (ps_ret (pe_cmpR op_le (pe_fn GF hr rfl pass0 (pa_cons (pv 0) (pa_cons (pv 2) pa_nil))) (pv 1) (nomark _))))), ?_⟩
    refine ⟨_, rfl, _, _, _, _, true, rfl, .ty _, .base (.lst hl), kit_ty (by decide +kernel), _, rfl, iteF ⟨_, rfl, l, _, rfl, .inl (SqL.of hl), rfl, _, rfl, ?_⟩⟩
    have hlen := List.length_pos_iff.mpr hne
    rw [List.length_map, decide_eq_false (p := V.int ((ws.length : Nat) : Int) = V.int 0) (fun e => by have := V.int.inj e; omega)]
    refine iteF ⟨_, rfl, l, rfl, ⟨_, SqL.of hl⟩, fun D hD => lc_mp ws (walk_list (K := K) (a := l) (xs := ws.map V.str) |> fun z => by rw [List.length_map] at z; exact z) hD (fun _ => .bl true) (by omega) (fun H5 s5 => SqL.of (s5 _ _ hl)) ?_ ?_⟩
    · rintro j z x H2 H3 hj s2 ⟨rfl, hx⟩ R hR
      rw [List.getElem?_map, hj] at hx
      obtain rfl : V.str z = x := Option.some.inj hx
      have gg := DGet.k (k := Sum.inr z) (s2 _ _ hd)
      rw [valV_cells, size_some (hin z (List.mem_of_getElem? hj))] at gg
      exact ⟨rfl, _, rfl, _, _, _, _, true, rfl, .ty _, .base (.str _), kit_ty (by decide +kernel), true, rfl, iteT ⟨_, rfl, _, rfl, d, _, rfl, gg, hR _ (Same.refl _)⟩⟩
    · intro H2 s2 hL
      refine ⟨D, ws.map fun _ => true, rfl, SqL.of (by rw [hL, List.map_map]; rfl), _, rfl, ?_⟩
      have e : (ws.map fun _ => true).all id = true := by simp
      rw [e]
      refine iteF ⟨_, rfl, _, rfl, d, l, cs, ws, rfl, s2 _ _ hd, SqL.of (s2 _ _ hl), few, hin, fun H3 s3 => ⟨_, rfl, _, _, rfl, rfl, ?_⟩⟩
      have e2 : decide ((total cs ws : Int) ≤ (r : Int)) = decide (total cs ws ≤ r) := decide_eq_decide.mpr Int.ofNat_le
      show Q (.bl (decide ((total cs ws : Int) ≤ (r : Int)))) H3
      rw [e2]
      exact k H3 (s2.trans s3)
end
end Vf

set_option maxRecDepth 100000
set_option maxHeartbeats 8000000
namespace Vf
open PySem PySem.Spec PyProof.Rows L2
/-- behind a dict that was locked and is let go -/
theorem unlock_same {H H' : Hp} {d : Addr} {o : Obj} {u : HO} (hd : H d = some u) (s : Same (upd H d (.frz o u)) H') : Same H (upd H' d u) := fun b ob e => by
  by_cases h : b = d
  · rw [h, hd] at e
    rw [h, upd_same]
    exact e
  · rw [upd_ne h]
    exact s b ob (by rw [upd_ne h]; exact e)
theorem cell_get {cs : List (Str × Nat)} {i : Nat} (h : i < (cellKv cs).length) : ∃ p, cs[i]? = some p ∧ (cellKv cs)[i]? = some (Sum.inr p.1, V.int (p.2 : Int)) := by
  unfold cellKv at h ⊢
  rw [List.length_map] at h
  exact ⟨cs[i], List.getElem?_eq_getElem h, by rw [List.getElem?_map, List.getElem?_eq_getElem h]; rfl⟩
section
variable {P : Program} {w : World} {K : PySem.W.Frag} {mg : Str → Option Value} {base : Heap}
def sp_check_cells : Sp := fun vs H Q _ => ∃ (d : Addr) (cs : List (Str × Nat)), vs = [.ref d] ∧ H d = some (.dK (cellKv cs)) ∧ GoodCs cs ∧ ∀ H', Same H H' → Q .non H'
theorem ok_check_cells {f : Addr} {fd : FuncData} (F : Fun K "_check_cells" "_check_cells" s_check_cells f fd) (T : Txt0 K mg) (GN : OkF P w K mg base CX0 "is_name" p_is_name 1 sp_is_name) (GW : OkF P w K mg base CX0 "is_integer_within" p_is_integer_within 2 sp_within) :
    FnOk P w K mg base CX0 3 f fd p_check_cells sp_check_cells := by
  refine F.ok sc_check_cells (fun vs H Q E h => ?_) (fun cdv A outer s H vs Q E hr h => ?_)
  · obtain ⟨d, cs, rfl, _⟩ := h
    rfl
  · obtain ⟨d, cs, rfl, hd, g, k⟩ := h
    obtain ⟨t6, e6⟩ := T.cells
    obtain ⟨t8, e8⟩ := T.size
    refine ⟨_, pss_cons (ps_if (PW.pt (pw_or (pt_not (pt_val (pe_callB call_isi (by rfl) T.isinstance boot_isinstance (pa_cons (pv 0) (pa_cons (pe_bltn (by rfl) T.dict (by decide +kernel) (v := .ty "dict") rfl) pa_nil)))))
        (pw_or1 (pt_not (pt_chain op_le op_le pe_int (pe_callB call_lenD (by rfl) T.len PySem.boot_len (pa_cons (pv 0) pa_nil)) (pe_glob (v := .int 6) rfl e6 ⟨_, rfl⟩)))))) (pss_one ps_never) pss_nil)
      (pss_one (ps_lock (ps_for PassesOwn.never rfl (pi_items (pv 0)) (pg_tup (by rfl) (pgs_cons (pg_name (i := 1) sc_check_cells.nd rfl (Or.inl rfl)) (pgs_cons (pg_name (i := 2) sc_check_cells.nd rfl (Or.inl rfl)) pgs_nil)))
        (pss_one (ps_if (PW.pt (pw_or (pt_not (pt_val (pe_fn GN (hr.mono (by decide)) rfl pass0 (pa_cons (pv 1) pa_nil))))
          (pw_or1 (pt_not (pt_val (pe_fn GW hr rfl pass0 (pa_cons (pv 2) (pa_cons pe_int (pa_cons (pe_glob (v := .int 8) rfl e8 ⟨_, rfl⟩) pa_nil))))))))) (pss_one ps_never) pss_nil))))), ?_⟩
    have few := g.few
    have some1 := List.length_pos_iff.mpr g.some
    have ln : (cellKv cs).length = cs.length := List.length_map ..
    refine ⟨_, rfl, _, _, _, _, true, rfl, .ty _, .base (.dK hd), kit_ty (by decide +kernel), _, rfl, iteF ?_⟩
    refine ⟨_, rfl, d, _, rfl, hd, 1, ((cellKv cs).length : Int), rfl, rfl, decide ((1 : Int) ≤ ((cellKv cs).length : Int)), rfl, ?_⟩
    rw [decide_eq_true (p := (1 : Int) ≤ ((cellKv cs).length : Int)) (by omega)]
    refine iteT ⟨_, _, rfl, rfl, _, rfl, ?_⟩
    rw [decide_eq_true (p := ((cellKv cs).length : Int) ≤ 6) (by omega)]
    refine iteF ⟨d, _, hd, True.intro, fun o => ?_⟩
    have hz : (upd H d (.frz o (.dK (cellKv cs)))) d = some (.frz o (.dK (cellKv cs))) := upd_same
    refine ⟨_, rfl, d, o, _, rfl, hz, for_it (walk_items (d := d) (o := o) (kvs := cellKv cs)) (fun i σ H' => ∃ v1 v2, σ = [some (.ref d), v1, v2] ∧ Same (upd H d (.frz o (.dK (cellKv cs)))) H') ⟨_, _, rfl, Same.refl _⟩ (fun i σ H' _ ⟨_, _, _, s⟩ => s _ _ hz) ?_ ?_⟩
    · rintro i x σ H1 H2 hi ⟨v1, v2, rfl, s1⟩ ⟨T1, x1, x2, rfl, hT1, rfl, hx1, hx2⟩
      obtain ⟨p, hp, hkv⟩ := cell_get hi
      replace hx1 : ((cellKv cs)[i]?.map fun kv => kV kv.1) = some x1 := hx1
      replace hx2 : ((cellKv cs)[i]?.map Prod.snd) = some x2 := hx2
      rw [hkv] at hx1 hx2
      obtain rfl : V.str p.1 = x1 := Option.some.inj hx1
      obtain rfl : V.int (p.2 : Int) = x2 := Option.some.inj hx2
      have hm := List.mem_of_getElem? hp
      have nm := g.name p hm
      have sz := g.size p hm
      have sT := same_new (o := .tup [.str p.1, .int (p.2 : Int)]) hT1
      refine ⟨T1, _, rfl, SqT.of upd_same, rfl, _, _, rfl, _, _, rfl, rfl, _, rfl, p.1, rfl, (by have := (name_len nm).2; omega), fun H3 s3 => ⟨_, rfl, ?_⟩⟩
      rw [nm]
      refine iteF ⟨_, rfl, (p.2 : Int), 1, 8, rfl, _, rfl, ?_⟩
      rw [decide_eq_true (p := (1 : Int) ≤ (p.2 : Int)) (by omega), decide_eq_true (p := (p.2 : Int) ≤ 8) (by omega)]
      exact iteF ⟨_, _, rfl, (s1.trans sT).trans s3⟩
    · rintro σ H1 ⟨v1, v2, rfl, s1⟩
      exact ⟨s1 _ _ hz, k _ (unlock_same hd s1)⟩
end
end Vf

set_option maxRecDepth 100000
set_option maxHeartbeats 4000000
namespace Vf
open PySem PySem.Spec PyProof.Rows L2
def rSortedD (K : PySem.W.Frag) : List V → Hp → VK → Prop := fun xs H Q => ∃ (a : Addr) (bs : List (V × PyData)), xs = [.ref a] ∧ SqL K H a (bs.map Prod.fst) ∧ bs.length ≤ 1000000 ∧ (∀ b ∈ bs, Dp K H b.1 b.2 ∧ b.2.depth ≤ 64) ∧
  PySem.W.AllAlike (bs.map Prod.snd) ∧ PySem.W.Sortable (bs.map Prod.snd) ∧ ∀ p, H p = none → Q (.ref p) (upd H p (.lst ((bs.mergeSort (PySem.W.dataLe false Prod.snd)).map Prod.fst)))
theorem each_of : ∀ {bs : List (V × PyData)} {its : List Value}, Vals (bs.map Prod.fst) its → PySem.W.EachIs (fun v (b : V × PyData) => RelV b.1 v) its bs
  | [], _, h => by
    cases h
    exact .nil
  | b :: bs, _, h => by
    cases h with
    | cons h1 h2 => exact .cons h1 (each_of h2)
theorem vals_each : ∀ {out : List Value} {bs : List (V × PyData)}, PySem.W.EachIs (fun v (b : V × PyData) => RelV b.1 v) out bs → Vals (bs.map Prod.fst) out
  | _, _, .nil => .nil
  | _, _, .cons h1 h2 => .cons h1 (vals_each h2)
theorem cr_sortedD {X : Cx} {k : Nat} (hr : Room k X.A) : CallR X (.builtin "sorted") (rSortedD X.K) := by
  intro pins s σ H vs us Q I r h
  obtain ⟨a, bs, rfl, hs, few, hd, al, so, q⟩ := h
  obtain ⟨its, rv, hl, _⟩ := I.list hs
  rw [Vals.ref1 r]
  have un := hr.un
  have reads : ∀ {its : List Value} {bs : List (V × PyData)}, (∀ b ∈ bs, Dp X.K H b.1 b.2 ∧ b.2.depth ≤ 64) → PySem.W.EachIs (fun v (b : V × PyData) => RelV b.1 v) its bs → PySem.W.EachIs (fun v (b : V × PyData) => ∃ as, Reads s.heap v b.2 as) its bs := by
    intro its bs hd e
    induction e with
    | nil => exact .nil
    | cons h1 _ ih => exact .cons (Dp.reads I _ _ _ (hd _ List.mem_cons_self).1 h1) (ih fun b hb => hd b (List.mem_cons_of_mem _ hb))
  have e := each_of rv
  refine PySem.W.sorted_data (enc := Prod.snd) hl.isList e (reads hd e) al so (by rw [sizeLine_eq]; omega) (fun b hb => by have := (hd b hb).2; omega) fun out hlen eo => ?_
  obtain ⟨ep, here⟩ := PyProof.Rows.sortedAll_at s.heap its out.toArray
  have short : ((bs.mergeSort (PySem.W.dataLe false Prod.snd)).map Prod.fst).length ≤ sizeLine := by
    rw [List.length_map, List.length_mergeSort, sizeLine_eq]
    omega
  have back := vals_each eo
  refine ⟨.ref _, upd H (s.heap.objs.size + 1) (.lst ((bs.mergeSort (PySem.W.dataLe false Prod.snd)).map Prod.fst)), I.laid (t' := s.toks) (fun _ _ => PyProof.Rows.sortedAll_old) (Nat.le_succ _) ⟨short, out, ep, back, ?_⟩, rfl, q _ (I.hok.fresh (Nat.le_succ _))⟩
  simpa using here
end Vf

set_option maxRecDepth 100000
set_option maxHeartbeats 4000000
namespace Vf
open PySem PySem.Spec PyProof.Rows L2
def leS (a b : Str) : Bool := !ltCps b.cps.toList a.cps.toList
theorem leS_iff {a b : Str} : leS a b = true ↔ ¬ b.cps.toList < a.cps.toList := by
  unfold leS
  rw [ltCps_eq]
  simp
theorem str_eq {a b : Str} (h : a.cps.toList = b.cps.toList) : a = b := by
  cases a with | mk x => cases b with | mk y =>
    have : x = y := Array.toList_inj.mp h
    rw [this]
theorem leS_trans (a b c : Str) (h1 : leS a b = true) (h2 : leS b c = true) : leS a c = true := by
  rw [leS_iff] at h1 h2 ⊢
  exact List.le_trans (l₁ := a.cps.toList) h1 h2
theorem leS_total (a b : Str) : (leS a b || leS b a) = true := by
  rcases List.le_total (l₁ := a.cps.toList) (l₂ := b.cps.toList) with h | h
  · rw [leS_iff.mpr h]; rfl
  · rw [leS_iff.mpr h, Bool.or_true]
theorem leS_anti {a b : Str} (h1 : leS a b = true) (h2 : leS b a = true) : a = b := by
  rw [leS_iff] at h1 h2
  exact str_eq (List.le_antisymm h1 h2)
def srt (l : List Str) : List Str := l.mergeSort leS
theorem srt_pw (l : List Str) : (srt l).Pairwise (fun a b => leS a b = true) := List.pairwise_mergeSort leS_trans leS_total l
theorem srt_perm (l : List Str) : (srt l).Perm l := List.mergeSort_perm l leS
theorem srt_uniq {a b : List Str} (ha : a.Pairwise (fun a b => leS a b = true)) (hb : b.Pairwise (fun a b => leS a b = true)) (p : a.Perm b) : a = b :=
  List.Perm.eq_of_pairwise (le := fun a b => leS a b = true) (fun _ _ _ _ h1 h2 => leS_anti h1 h2) ha hb p
theorem pw_rising : ∀ (p : Str) (l : List Str), risingS p l = true → (p :: l).Pairwise (fun a b => leS a b = true)
  | p, [], _ => List.pairwise_cons.mpr ⟨(fun _ h => nomatch h), List.Pairwise.nil⟩
  | p, x :: r, h => by
    have h' : (!ltCps x.cps.toList p.cps.toList && risingS x r) = true := h
    rw [Bool.and_eq_true] at h'
    have ih := pw_rising x r h'.2
    refine List.pairwise_cons.mpr ⟨fun y hy => ?_, ih⟩
    rcases List.mem_cons.mp hy with rfl | hy
    · exact h'.1
    · exact leS_trans _ _ _ h'.1 ((List.pairwise_cons.mp ih).1 y hy)
theorem pw_sortedS {l : List Str} (h : sortedS l = true) : l.Pairwise (fun a b => leS a b = true) := by
  cases l with
  | nil => exact .nil
  | cons x r => exact pw_rising x r h
theorem srt_of {ys xs : List Str} (p : ys.Perm xs) (h : sortedS ys = true) : ys = srt xs := srt_uniq (pw_sortedS h) (srt_pw xs) (p.trans (srt_perm xs).symm)
theorem srt_same {a b : List Str} (p : a.Perm b) : srt a = srt b := srt_uniq (srt_pw a) (srt_pw b) ((srt_perm a).trans (p.trans (srt_perm b).symm))
theorem srt_srt (a : List Str) : srt (srt a) = srt a := srt_same (srt_perm a)
theorem srt_one (z : Str) : srt [z] = [z] := List.mergeSort_singleton z
theorem dp_strs {K : PySem.W.Frag} {H : Hp} : ∀ ws : List Str, DpAll K H (ws.map V.str) (ws.map PyData.str)
  | [] => .nil
  | z :: ws => .cons (.str z) (dp_strs ws)
theorem plain_strs : ∀ {ws : List Str}, (∀ z ∈ ws, PyData.strOk z = true) → plainAll (ws.map PyData.str) = true
  | [], _ => rfl
  | z :: ws, h => by
    simp only [List.map_cons, plainAll, plainD, Bool.and_eq_true]
    exact ⟨h z List.mem_cons_self, plain_strs fun y hy => h y (List.mem_cons_of_mem _ hy)⟩
theorem depth_strs : ∀ ws : List Str, PyData.depthAll (ws.map PyData.str) = 0
  | [] => rfl
  | z :: ws => by simp only [List.map_cons, PyData.depthAll, PyData.depth, depth_strs ws, Nat.max_self]
theorem shaped_strs {ws : List Str} (h : ∀ z ∈ ws, PyData.strOk z = true) : SeqAt.shaped (.list (ws.map PyData.str)) = true :=
  shaped_of (by simp only [plainD, plain_strs h]) (by simp only [PyData.depth, depth_strs]; decide)
theorem eqv_self {d : PyData} (h : plainD d = true) : PyData.eqv d d = true := (eqv_iff d d h h).mpr rfl
theorem ok_str {z : Str} (h2 : ∀ c ∈ TL.tl z, c < 1114112) : PyData.strOk z = true := by
  unfold PyData.strOk
  rw [← Array.all_toList, List.all_eq_true]
  intro c hc
  exact decide_eq_true (h2 c hc)
theorem ok_name {z : Str} (h : isNameT z = true) : PyData.strOk z = true := ok_str fun c hc => by
  have := name_signs h c hc
  omega
end Vf

set_option maxRecDepth 100000
set_option maxHeartbeats 8000000
namespace Vf
open PySem PySem.Spec PyProof.Rows L2
theorem cell_keys (cs : List (Str × Nat)) : (cellKv cs).map (·.1) = (cs.map Prod.fst).map Sum.inr := by
  unfold cellKv
  rw [List.map_map, List.map_map]
  rfl
theorem flat_len {α : Type} {ps : List (α × List Str)} (h : ∀ p ∈ ps, p.2 ≠ []) : ps.length ≤ (ps.flatMap Prod.snd).length := by
  induction ps with
  | nil => simp
  | cons p r ih =>
    have h1 := List.length_pos_iff.mpr (h p List.mem_cons_self)
    have h2 := ih fun q hq => h q (List.mem_cons_of_mem _ hq)
    rw [List.flatMap_cons, List.length_append, List.length_cons]
    omega
theorem flat_part {α : Type} {ps : List (α × List Str)} {p : α × List Str} (h : p ∈ ps) : p.2.length ≤ (ps.flatMap Prod.snd).length := by
  induction ps with
  | nil => cases h
  | cons q r ih =>
    rw [List.flatMap_cons, List.length_append]
    rcases List.mem_cons.mp h with rfl | h
    · omega
    · have := ih h
      omega
section
variable {P : Program} {w : World} {K : PySem.W.Frag} {mg : Str → Option Value} {base : Heap}
/-- lines as they are handed in -/
structure InLines (H : Hp) (l : Addr) (cs : List (Str × Nat)) (r : Nat) (ps : List (Addr × List Str)) : Prop where
  at_ : H l = some (.lst (ps.map fun p => V.ref p.1))
  each : ∀ p ∈ ps, H p.1 = some (.lst (p.2.map V.str)) ∧ p.2 ≠ [] ∧ total cs p.2 ≤ r
  perm : (ps.flatMap Prod.snd).Perm (cs.map Prod.fst)
theorem InLines.same {H H' : Hp} {l : Addr} {cs : List (Str × Nat)} {r : Nat} {ps : List (Addr × List Str)} (h : InLines H l cs r ps) (s : Same H H') : InLines H' l cs r ps :=
  ⟨s _ _ h.at_, fun p hp => ⟨s _ _ (h.each p hp).1, (h.each p hp).2⟩, h.perm⟩
theorem InLines.len {H : Hp} {l : Addr} {cs : List (Str × Nat)} {r : Nat} {ps : List (Addr × List Str)} (h : InLines H l cs r ps) (g : GoodCs cs) : (ps.flatMap Prod.snd).length ≤ 6 := by
  have := h.perm.length_eq
  rw [List.length_map] at this
  have := g.few
  omega
def sp_are_lines : Sp := fun vs H Q _ => ∃ (d l : Addr) (cs : List (Str × Nat)) (r : Nat) (ps : List (Addr × List Str)), vs = [.ref d, .int (r : Int), .ref l] ∧ H d = some (.dK (cellKv cs)) ∧ GoodCs cs ∧ InLines H l cs r ps ∧ ∀ H', Same H H' → Q (.bl true) H'
theorem ok_are_lines {f : Addr} {fd : FuncData} (F : Fun K "_are_lines" "_are_lines" s_are_lines f fd) (T : Txt0 K mg) (GL : OkF P w K mg base CX0 "_is_line" p_is_line 2 sp_is_line) : FnOk P w K mg base CX0 3 f fd p_are_lines sp_are_lines := by
  refine F.ok sc_are_lines (fun vs H Q E h => ?_) (fun cdv A outer s H vs Q E hr h => ?_)
  · obtain ⟨d, l, cs, r, ps, rfl, _⟩ := h
    rfl
  · obtain ⟨d, l, cs, r, ps, rfl, hd, g, il, k⟩ := h
    refine ⟨_, pss_cons (ps_if (PW.pt (pw_or (pt_not (pt_val (pe_callB call_isi (by rfl) T.isinstance boot_isinstance (pa_cons (pv 2) (pa_cons (pe_bltn (by rfl) T.list (by decide +kernel) (v := .ty "list") rfl) pa_nil)))))
        (pw_or1 (pt_not (pt_val (pe_callB (cr_all rfl) (by rfl) T.all (by decide +kernel) (pa_cons (pe_lc (own := [("line", 3)]) (g := gName 3) (tt := tYes) rfl sc_are_lines.nd (pi_list (pv 2)) (blkOk_by (N := n_are_lines) (sc := defScope s_are_lines) (by decide +kernel))
          (fun _ _ _ _ _ => pg_name (i := 3) sc_are_lines.nd rfl (Or.inl rfl)) (fun _ _ _ _ _ => pts_nil)
          (fun _ _ _ _ _ => pe_fn GL hr rfl pass0 (pa_cons (pv 0) (pa_cons (pv 1) (pa_cons (pv 3) pa_nil))))) pa_nil))))))) (pss_one (ps_ret pe_bl)) pss_nil)
      (pss_one (ps_ret (pe_cmpR (op_eqD hr.units) (pe_callB cr_sortedS (by rfl) T.sorted (by decide +kernel) (pa_cons
          (pe_lc2 (own := [("line", 3), ("name", 4)]) (vs1 := [4]) (wi1 := iList K (tVar 3)) (g := gName 3) (g1 := gName 4) (tt := tYes) (tt1 := tYes) rfl sc_are_lines.nd (pi_list (pv 2)) (blkOk_by (N := n_are_lines) (sc := defScope s_are_lines) (by decide +kernel)) (by decide)
            (fun _ _ _ _ _ => pg_name (i := 3) sc_are_lines.nd rfl (Or.inl rfl)) (fun _ _ _ _ _ => pts_nil) (fun _ _ _ _ _ => pi_list (pv 3))
            (fun _ _ _ _ _ => pg_name (i := 4) sc_are_lines.nd rfl (Or.inl rfl)) (fun _ _ _ _ _ => pts_nil) (fun _ _ _ _ _ => pv 4)) pa_nil))
          (pe_callB (call_sortedD rfl) (by rfl) T.sorted (by decide +kernel) (pa_cons (pv 0) pa_nil)) (nomark _)))), ?_⟩
    have l6 := il.len g
    have lp := flat_len fun p hp => (il.each p hp).2.1
    have each : ∀ p ∈ ps, p.2.length ≤ 6 := fun p hp => Nat.le_trans (flat_part hp) l6
    refine ⟨_, rfl, _, _, _, _, true, rfl, .ty _, .base (.lst il.at_), kit_ty (by decide +kernel), _, rfl, iteF ?_⟩
    have wl : ∀ {a : Addr}, Walk (Itl K a) ps.length (fun H => SqL K H a (ps.map fun p => V.ref p.1)) (YAt (ps.map fun p => V.ref p.1)) := fun {a} => (walk_list (K := K) (a := a) (xs := ps.map fun p => V.ref p.1) |> fun z => by rw [List.length_map] at z; exact z)
    refine ⟨_, rfl, l, rfl, ⟨_, SqL.of il.at_⟩, fun D hD => lc_mp ps wl hD (fun _ => .bl true) (by omega) (fun H5 s5 => SqL.of (s5 _ _ il.at_)) ?_ ?_⟩
    · rintro j p x H2 H3 hj s2 ⟨rfl, hx⟩ R hR
      rw [List.getElem?_map, hj] at hx
      obtain rfl : V.ref p.1 = x := Option.some.inj hx
      have hp := List.mem_of_getElem? hj
      obtain ⟨h1, h2, h3⟩ := il.each p hp
      refine ⟨rfl, _, rfl, _, rfl, _, rfl, d, p.1, cs, r, p.2, rfl, s2 _ _ hd, s2 _ _ h1, h2, by have := each p hp; omega, fun z hz => ?_, fun H4 s4 => ?_⟩
      · exact il.perm.mem_iff.mp (List.mem_flatMap.mpr ⟨p, hp, hz⟩)
      · rw [decide_eq_true h3]
        exact hR H4 s4
    · intro H2 s2 hL
      refine ⟨D, ps.map fun _ => true, rfl, SqL.of (by rw [hL, List.map_map]; rfl), _, rfl, ?_⟩
      have e : (ps.map fun _ => true).all id = true := by simp
      rw [e]
      refine iteF ?_
      have il2 := il.same s2
      refine ⟨_, rfl, l, rfl, ⟨_, SqL.of il2.at_⟩, fun D2 hD2 => ⟨fun i m H' => m = ps.length - i ∧ i ≤ ps.length ∧ Same H2 H' ∧ H' D2 = some (.lst (((ps.take i).flatMap Prod.snd).map V.str)), ⟨ps.length, by simp, Nat.zero_le _, same_new hD2, by rw [upd_same]; rfl⟩, ?_⟩⟩
      rintro i m H3 ⟨rfl, hi, s3, e3⟩
      have sq : SqL K H3 l (ps.map fun p => V.ref p.1) := SqL.of (s3 _ _ il2.at_)
      by_cases hlt : i < ps.length
      · have hj : ps[i]? = some ps[i] := List.getElem?_eq_getElem hlt
        generalize ps[i] = p at hj
        have hp := List.mem_of_getElem? hj
        have tk : (ps.take (i + 1)).flatMap Prod.snd = (ps.take i).flatMap Prod.snd ++ p.2 := by
          rw [List.take_add_one, hj, List.flatMap_append]
          simp
        have tl6 : ((ps.take i).flatMap Prod.snd ++ p.2).length ≤ 6 := by
          rw [← tk]
          refine Nat.le_trans ?_ l6
          conv => rhs; rw [← List.take_append_drop (i + 1) ps, List.flatMap_append, List.length_append]
          omega
        refine .inr ⟨wl.goes i H3 hlt sq, fun H' => Same H2 H' ∧ H' D2 = some (.lst (((ps.take (i + 1)).flatMap Prod.snd).map V.str)), fun H' q => ⟨ps.length - (i + 1), by omega, rfl, hlt, q⟩, fun x H4 y => ?_⟩
        obtain ⟨rfl, hx⟩ := wl.yields i H3 x H4 hlt sq y
        rw [List.getElem?_map, hj] at hx
        obtain rfl : V.ref p.1 = x := Option.some.inj hx
        obtain ⟨h1, h2, h3⟩ := il2.each p hp
        have wp : Walk (Itl K p.1) p.2.length (fun H => SqL K H p.1 (p.2.map V.str)) (YAt (p.2.map V.str)) := (walk_list (K := K) (a := p.1) (xs := p.2.map V.str) |> fun z => by rw [List.length_map] at z; exact z)
        refine ⟨rfl, _, rfl, p.1, rfl, ⟨_, SqL.of (s3 _ _ h1)⟩, fun j n H' => n = p.2.length - j ∧ j ≤ p.2.length ∧ Same H2 H' ∧ H' D2 = some (.lst (((ps.take i).flatMap Prod.snd ++ p.2.take j).map V.str)), ⟨p.2.length, by simp, Nat.zero_le _, s3, by rw [e3]; simp⟩, ?_⟩
        rintro j n H5 ⟨rfl, hjl, s5, e5⟩
        have sq5 : SqL K H5 p.1 (p.2.map V.str) := SqL.of (s5 _ _ h1)
        by_cases hl2 : j < p.2.length
        · have hz : p.2[j]? = some p.2[j] := List.getElem?_eq_getElem hl2
          generalize p.2[j] = z at hz
          refine .inr ⟨wp.goes j H5 hl2 sq5, fun H' => Same H2 H' ∧ H' D2 = some (.lst (((ps.take i).flatMap Prod.snd ++ p.2.take (j + 1)).map V.str)), fun H' q => ⟨p.2.length - (j + 1), by omega, rfl, hl2, q⟩, fun x H6 y => ?_⟩
          obtain ⟨rfl, hx⟩ := wp.yields j H5 x H6 hl2 sq5 y
          rw [List.getElem?_map, hz] at hx
          obtain rfl : V.str z = x := Option.some.inj hx
          refine ⟨rfl, _, rfl, _, e5, ?_, same_upd s5 hD2, ?_⟩
          · rw [List.length_map, List.length_append, List.length_take, sizeLine_eq]
            rw [List.length_append] at tl6
            omega
          · rw [upd_same, List.take_add_one, hz, ← List.append_assoc, List.map_append (l₁ := _ ++ _)]
            rfl
        · have e : j = p.2.length := by omega
          subst e
          refine .inl ⟨wp.stops H5 sq5, s5, ?_⟩
          rw [e5, tk, List.take_length]
      · have e : i = ps.length := by omega
        subst e
        rw [List.take_length] at e3
        refine .inl ⟨wl.stops H3 sq, D2, ps.flatMap Prod.snd, rfl, SqL.of e3, by omega, fun ys p4 hy1 hy2 hp4 => ?_⟩
        have s4 : Same H (upd H3 p4 (.lst (ys.map V.str))) := (s2.trans s3).trans (same_new hp4)
        have few := g.few
        refine ⟨_, rfl, d, cellKv cs, cs.map Prod.fst, rfl, .inl (s4 _ _ hd), cell_keys cs, by rw [List.length_map]; omega, fun zs p5 hz1 hz2 hp5 => ?_⟩
        have same : ys = zs := (srt_of hy1 hy2).trans ((srt_same il.perm).trans (srt_of hz1 hz2).symm)
        subst same
        have ok : ∀ z ∈ ys, PyData.strOk z = true := fun z hz => by
          obtain ⟨q, hq, rfl⟩ := List.mem_map.mp (hz1.mem_iff.mp hz)
          exact ok_name (g.name q hq)
        refine ⟨.list (ys.map PyData.str), .list (ys.map PyData.str), .lst (SqL.of (same_new hp5 _ _ upd_same)) (dp_strs _), .lst (SqL.of upd_same) (dp_strs _), shaped_strs ok, shaped_strs ok, ?_⟩
        rw [eqv_self (by simp only [plainD, plain_strs ok])]
        exact k _ (s4.trans (same_new hp5))
end
end Vf

set_option maxRecDepth 100000
set_option maxHeartbeats 4000000
namespace Vf
open PySem PySem.Spec PyProof.Rows L2
def But (p : Addr) (H1 H : Hp) : Prop := ∀ b o, b ≠ p → H1 b = some o → H b = some o
theorem But.refl (p : Addr) (H : Hp) : But p H H := fun _ _ _ e => e
theorem But.then {p : Addr} {H1 H2 H3 : Hp} (a : But p H1 H2) (s : Same H2 H3) : But p H1 H3 := fun b o hb e => s b o (a b o hb e)
theorem But.trans {p : Addr} {H1 H2 H3 : Hp} (a : But p H1 H2) (s : But p H2 H3) : But p H1 H3 := fun b o hb e => s b o hb (a b o hb e)
theorem But.put {p : Addr} {H1 H2 : Hp} {o : HO} (a : But p H1 H2) : But p H1 (upd H2 p o) := fun b u hb e => by rw [upd_ne hb]; exact a b u hb e
theorem Same.but {p : Addr} {H1 H2 : Hp} (s : Same H1 H2) : But p H1 H2 := fun b o _ e => s b o e
theorem But.same {p : Addr} {H0 H1 H2 : Hp} (a : But p H1 H2) (s : Same H0 H1) (h : H0 p = none) : Same H0 H2 := fun b o e => a b o (ne_of_none e h) (s b o e)
section
variable {J : It} {n : Nat} {G : Hp → Prop} {Y : Nat → Hp → V → Hp → Prop}
/-- [.. for .. in ..], each value told by Pr -/
theorem lc_ad {α : Type} (l : List α) (w : Walk J l.length G Y) {g : TG} {te : TE} {vs : List Nat} {σ : L2.St} {H1 : Hp} {D : Addr} {Qd : Hp → Prop} (hD : H1 D = none) (Pr : α → V → Hp → Prop) (hn : l.length < 1000000) (hG : ∀ H, Same H1 H → G H)
    (hs : ∀ i a x H H', l[i]? = some a → Same H1 H → (∃ acc, H D = some (.lst acc)) → Y i H x H' → ∀ R : V → Hp → Prop, (∀ v H4, Same H H4 → (∀ H5, But D H4 H5 → Pr a v H5) → R v H4) →
      g x (wipe σ vs) H' fun σ2 H2 => wipe σ2 vs = wipe σ vs ∧ te σ2 H2 R)
    (hd : ∀ H (xs : List V), Same H1 H → H D = some (.lst xs) → xs.length = l.length → (∀ (i : Nat) (a : α) (v : V), l[i]? = some a → xs[i]? = some v → Pr a v H) → Qd H) :
    ∃ W : Nat → Nat → Hp → Prop, (∃ m, W 0 m (upd H1 D (.lst []))) ∧ ∀ i m H, W i m H →
      (J.stop i H ∧ Qd H) ∨ (J.go i H ∧ ∃ Nx : Hp → Prop, (∀ H', Nx H' → ∃ m', m' < m ∧ W (i + 1) m' H') ∧ ∀ x H', J.yld i H x H' → g x (wipe σ vs) H' fun σ2 H2 => wipe σ2 vs = wipe σ vs ∧ tYes σ2 H2 fun b H3 =>
        if b = true then te σ2 H3 fun y H4 => ∃ acc, H4 D = some (.lst acc) ∧ acc.length < sizeLine ∧ Nx (upd H4 D (.lst (acc ++ [y]))) else Nx H3) := by
  refine ⟨fun i m H => m = l.length - i ∧ i ≤ l.length ∧ Same H1 H ∧ ∃ xs : List V, H D = some (.lst xs) ∧ xs.length = i ∧ ∀ (j : Nat) (a : α) (v : V), l[j]? = some a → xs[j]? = some v → ∀ H5, But D H H5 → Pr a v H5, ⟨l.length, by simp, Nat.zero_le _, same_new hD, [], upd_same, rfl, fun j a v _ h => by simp at h⟩, ?_⟩
  rintro i m H ⟨rfl, hi, s, xs, hH, hxs, hp⟩
  by_cases hlt : i < l.length
  · have ha : l[i]? = some l[i] := List.getElem?_eq_getElem hlt
    refine .inr ⟨w.goes i H hlt (hG H s), fun H' => Same H1 H' ∧ ∃ xs : List V, H' D = some (.lst xs) ∧ xs.length = i + 1 ∧ ∀ (j : Nat) (a : α) (v : V), l[j]? = some a → xs[j]? = some v → ∀ H5, But D H' H5 → Pr a v H5, fun H' p => ⟨l.length - (i + 1), by omega, rfl, hlt, p⟩, fun x H' y => ?_⟩
    have q := hs i _ x H H' ha s ⟨xs, hH⟩ (w.yields i H x H' hlt (hG H s) y) (fun y H4 => ∃ acc, H4 D = some (.lst acc) ∧ acc.length < sizeLine ∧ Same H1 (upd H4 D (.lst (acc ++ [y]))) ∧ ∃ xs : List V, (upd H4 D (.lst (acc ++ [y]))) D = some (.lst xs) ∧ xs.length = i + 1 ∧ ∀ (j : Nat) (a : α) (v : V), l[j]? = some a → xs[j]? = some v → ∀ H5, But D (upd H4 D (.lst (acc ++ [y]))) H5 → Pr a v H5) ?_
    · exact q
    intro v H4 s4 hv
    have e4 := s4 D _ hH
    have b4 : But D H4 (upd H4 D (.lst (xs ++ [v]))) := (But.refl D H4).put
    refine ⟨xs, e4, by rw [sizeLine_eq]; omega, same_upd (s.trans s4) hD, xs ++ [v], upd_same, by rw [List.length_append, hxs]; rfl, fun j a u hj hu H5 b5 => ?_⟩
    by_cases hj' : j < xs.length
    · rw [List.getElem?_append_left hj'] at hu
      exact hp j a u hj hu H5 ((Same.but s4).trans (b4.trans b5))
    · have ej : j = xs.length := by
        have := (List.getElem?_eq_some_iff.mp hu).1
        rw [List.length_append, List.length_singleton] at this
        omega
      subst ej
      rw [List.getElem?_append_right (Nat.le_refl _), Nat.sub_self] at hu
      obtain rfl : v = u := by simpa using hu
      rw [hxs, ha] at hj
      obtain rfl : l[i] = a := Option.some.inj hj
      exact hv H5 (b4.trans b5)
  · have e : i = l.length := by omega
    subst e
    exact .inl ⟨w.stops H (hG H s), hd H xs s hH hxs fun j a v hj hv => hp j a v hj hv H (But.refl D H)⟩
end
def lnD (ws : List Str) : PyData := .tuple (ws.map PyData.str)
def leL (a b : List Str) : Bool := PySem.W.dataLe false lnD a b
def sortL (ls : List (List Str)) : List (List Str) := ls.mergeSort leL
theorem sortL_perm (ls : List (List Str)) : (sortL ls).Perm ls := List.mergeSort_perm ls leL
/-- a tuple of tuples of texts -/
def LinesAt (H : Hp) (t : Addr) (qs : List (Addr × List Str)) : Prop := H t = some (.tup (qs.map fun q => V.ref q.1)) ∧ ∀ q ∈ qs, H q.1 = some (.tup (q.2.map V.str))
theorem LinesAt.same {H H' : Hp} {t : Addr} {qs : List (Addr × List Str)} (h : LinesAt H t qs) (s : Same H H') : LinesAt H' t qs := ⟨s _ _ h.1, fun q hq => s _ _ (h.2 q hq)⟩
theorem alikeAll_strs : ∀ xs ys : List Str, PySem.W.alikeAll (xs.map PyData.str) (ys.map PyData.str) = true
  | [], _ => by rw [List.map_nil, PySem.W.alikeAll]
  | _ :: _, [] => by rw [List.map_cons, List.map_nil, PySem.W.alikeAll]
  | x :: xs, y :: ys => by
    rw [List.map_cons, List.map_cons, PySem.W.alikeAll, alikeAll_strs xs ys, PySem.W.alike]
    rfl
theorem alike_ln (xs ys : List Str) : PySem.W.alike (lnD xs) (lnD ys) = true := by
  unfold lnD
  rw [PySem.W.alike]
  exact alikeAll_strs xs ys
theorem qs_of {H : Hp} : ∀ (ls : List (List Str)) (xs : List V), xs.length = ls.length → (∀ (i : Nat) (ws : List Str) (v : V), ls[i]? = some ws → xs[i]? = some v → ∃ t, v = .ref t ∧ H t = some (.tup (ws.map V.str))) →
    ∃ qs : List (Addr × List Str), xs = qs.map (fun q => V.ref q.1) ∧ qs.map Prod.snd = ls ∧ ∀ q ∈ qs, H q.1 = some (.tup (q.2.map V.str))
  | [], [], _, _ => ⟨[], rfl, rfl, fun _ h => nomatch h⟩
  | [], _ :: _, h, _ => by simp at h
  | _ :: _, [], h, _ => by simp at h
  | ws :: ls, v :: xs, h, hp => by
    obtain ⟨t, rfl, ht⟩ := hp 0 ws v rfl rfl
    obtain ⟨qs, e1, e2, e3⟩ := qs_of ls xs (by simpa using h) fun i a u h1 h2 => hp (i + 1) a u (by simpa using h1) (by simpa using h2)
    refine ⟨(t, ws) :: qs, by rw [e1]; rfl, by rw [← e2]; rfl, fun q hq => ?_⟩
    rcases List.mem_cons.mp hq with rfl | hq
    · exact ht
    · exact e3 q hq
/-- a list of tuples of texts, sorted -/
theorem lines_sorted {K : PySem.W.Frag} {H : Hp} {Q : VK} {D : Addr} {qs : List (Addr × List Str)} (hD : H D = some (.lst (qs.map fun q => V.ref q.1))) (ht : ∀ q ∈ qs, H q.1 = some (.tup (q.2.map V.str))) (few : qs.length ≤ 1000) (ne : ∀ q ∈ qs, q.2 ≠ [])
    (k : ∀ (p : Addr) (rs : List (Addr × List Str)), H p = none → rs.map Prod.snd = sortL (qs.map Prod.snd) → (∀ q ∈ rs, q ∈ qs) → Q (.ref p) (upd H p (.lst (rs.map fun q => V.ref q.1)))) : rSortedD K [.ref D] H Q := by
  refine ⟨D, qs.map (fun q => (V.ref q.1, lnD q.2)), rfl, SqL.of (by rw [hD, List.map_map]; rfl), by rw [List.length_map]; omega, fun b hb => ?_, fun d hd d' hd' => ?_, .inl fun d hd => ?_, fun p hp => ?_⟩
  · obtain ⟨q, hq, rfl⟩ := List.mem_map.mp hb
    exact ⟨.tup (SqT.of (ht q hq)) (dp_strs _), by simp only [lnD, PyData.depth, depth_strs]; decide⟩
  · rw [List.map_map] at hd hd'
    obtain ⟨q, _, rfl⟩ := List.mem_map.mp hd
    obtain ⟨q', _, rfl⟩ := List.mem_map.mp hd'
    exact alike_ln q.2 q'.2
  · rw [List.map_map] at hd
    obtain ⟨q, hq, rfl⟩ := List.mem_map.mp hd
    have := ne q hq
    cases e : q.2 with
    | nil => exact absurd e this
    | cons x r => exact ⟨.str x, r.map PyData.str, by show lnD q.2 = _; rw [e]; rfl⟩
  · have e1 : ((qs.map (fun q => (V.ref q.1, lnD q.2))).mergeSort (PySem.W.dataLe false Prod.snd)) = (qs.mergeSort fun a b => leL a.2 b.2).map (fun q => (V.ref q.1, lnD q.2)) :=
      (List.map_mergeSort (f := fun q : Addr × List Str => (V.ref q.1, lnD q.2)) fun _ _ _ _ => rfl).symm
    have e2 : (qs.mergeSort fun a b => leL a.2 b.2).map Prod.snd = sortL (qs.map Prod.snd) := List.map_mergeSort (f := Prod.snd) fun _ _ _ _ => rfl
    have q := k p (qs.mergeSort fun a b => leL a.2 b.2) hp e2 fun q hq => (List.mergeSort_perm qs _).mem_iff.mp hq
    rw [e1, List.map_map]
    exact q
theorem merge_snoc (xs : List (Key × V)) (p : Key × V) (kvs : List (Key × V)) : mergeK kvs (xs ++ [p]) = putK (mergeK kvs xs) p.1 p.2 := by
  unfold mergeK
  rw [List.foldl_append]
  rfl
theorem val_none {kvs : List (Key × V)} {k : Key} (h : k ∉ kvs.map Prod.fst) : valV kvs k = none := by
  induction kvs with
  | nil => rfl
  | cons p r ih =>
    rw [List.map_cons] at h
    rw [valV_neg (fun e => h (by rw [← e]; exact List.mem_cons_self)), ih fun z => h (List.mem_cons_of_mem _ z)]
theorem val_mem {kvs : List (Key × V)} {k : Key} {v : V} (hn : (kvs.map Prod.fst).Nodup) (h : (k, v) ∈ kvs) : valV kvs k = some v := by
  induction kvs with
  | nil => cases h
  | cons p r ih =>
    rw [List.map_cons, List.nodup_cons] at hn
    rcases List.mem_cons.mp h with rfl | h
    · exact valV_pos rfl
    · rw [valV_neg (fun e => hn.1 (by rw [e]; exact List.mem_map_of_mem (f := Prod.fst) h)), ih hn.2 h]
theorem merge_nodup : ∀ (xs kvs : List (Key × V)), ((kvs ++ xs).map Prod.fst).Nodup → mergeK kvs xs = kvs ++ xs
  | [], kvs, _ => (List.append_nil kvs).symm
  | p :: xs, kvs, h => by
    have e : mergeK kvs (p :: xs) = mergeK (putK kvs p.1 p.2) xs := rfl
    have hk : p.1 ∉ kvs.map Prod.fst := fun z => by
      rw [List.map_append, List.map_cons, List.nodup_append] at h
      exact h.2.2 _ z _ List.mem_cons_self rfl
    rw [e, putK_new _ (val_none hk), merge_nodup xs _ (by rw [List.append_assoc]; exact h), List.append_assoc]
    rfl
end Vf

set_option maxRecDepth 100000
set_option maxHeartbeats 4000000
namespace Vf
open PySem PySem.Spec PyProof.Rows L2
theorem meets_enumT {v : Value} {o : Obj} {H : Heap → Prop} (B : Begins v o H) :
    Meets (Builtin.«enumerate.__new__» ⟨[.type "enumerate", v], []⟩) (fun _ R s => H s.heap ∧
      R (.ok (.ret (.ref (s.heap.push o).objs.size))) { s with heap := (s.heap.push o).push { cls := .type "enumerate", data := .fields #[.none, .bool false, .ref s.heap.objs.size, rawInt 0, .none, .none] } }) :=
  .of_wp fun prog w A R s h => by
    obtain ⟨hp, g, d, tk, os⟩ := s; obtain ⟨h1, h⟩ := h
    have hsub := sub_enumerate
    have q1 : ∀ {A' : Around} {E : Value → Shared → Prop} {Q : Value → Shared → Prop}, Q (.ref hp.objs.size) ⟨hp.push o, g, d, tk, os⟩ → wpAny (model prog w) A' (pyIter v) Q E ⟨hp, g, d, tk, os⟩ :=
      fun q => B.iter prog w _ _ ⟨hp, g, d, tk, os⟩ _ h1 q
    wp_walk using q1
    refine wpAny_stack_any fun st => wpAny_pure ?_
    split
    · rename_i c _ _ _ _ _
      cases (c == Value.type "enumerate")
      · wp_walk using q1
        exact ⟨_, rfl, h⟩
      · wp_walk using q1
        exact ⟨_, rfl, h⟩
    · wp_walk using q1
      exact ⟨_, rfl, h⟩
section
variable {prog : Program} {w : World} {A : Around} {E : Value → Shared → Prop} {s : Shared}
theorem call_enumT {v : Value} {o : Obj} {H : Heap → Prop} {Q : Value → Shared → Prop} (B : Begins v o H) (h1 : H s.heap)
    (h : ∀ h', IsEnum h' (s.heap.objs.size + 1) s.heap.objs.size 0 .none → h'.get? s.heap.objs.size = some o → h'.objs.size = s.heap.objs.size + 2 →
      (∀ b o, s.heap.get? b = some o → h'.get? b = some o) → Q (.ref (s.heap.objs.size + 1)) { s with heap := h' }) :
    wpAny (model prog w) A (call (.type "enumerate") [v]) Q E s := by
  refine callType_new F.called_enumerate (by decide) (F.typeCall_enumerate_1 _) (F.newCall_enumerate_1 _) (fun obj => F.args_object_init_2 obj _) F.entry_enumerate_new
    (meets_enumT B) ⟨h1, ?_⟩
  have hz : (s.heap.push o).objs.size = s.heap.objs.size + 1 := Heap.size_push ..
  show _ ∧ _
  rw [hz]
  have he : IsEnum ((s.heap.push o).push { cls := .type "enumerate", data := .fields #[.none, .bool false, .ref s.heap.objs.size, rawInt 0, .none, .none] }) (s.heap.objs.size + 1) s.heap.objs.size 0 .none := by
    have := Heap.get?_push_size (s.heap.push o) (o := { cls := .type "enumerate", data := .fields #[.none, .bool false, .ref s.heap.objs.size, rawInt 0, .none, .none] }) rfl
    rw [hz] at this; exact this
  refine ⟨⟨_, he, rfl⟩, h _ he (Heap.get?_push_of_some _ (Heap.get?_push_size _ B.free)) (by rw [Heap.size_push, hz]) fun b o x => Heap.get?_push_of_some _ (Heap.get?_push_of_some _ x)⟩
end
/-- the tuple at a, each item in a new pair -/
def IteT (K : PySem.W.Frag) (a : Addr) : It :=
  ⟨fun i H => ∃ (xs : List V) (x : V), SqT K H a xs ∧ xs[i]? = some x, fun i H v H' => ∃ T x, v = .ref T ∧ H T = none ∧ H' = upd H T (.tup [.int (i : Nat), x]) ∧ ∀ xs, SqT K H a xs → xs[i]? = some x, fun i H => ∃ xs : List V, SqT K H a xs ∧ xs.length = i⟩
theorem turn_enumT {P : Program} {w : World} {K : PySem.W.Frag} {elts : List Expr} {kk : Nat} {tpos : Pos} (a e it : Addr) :
    Turn P w K (.Tuple elts kk tpos) (IteT K a) [e, it] e (fun i h => (∃ old, IsEnum h e it ((i : Nat) : Int) old) ∧ h.IsTupleIter it a i ∧ e ≠ it ∧ a ≠ it ∧ a ≠ e) where
  mem := by simp
  obj := fun i h st b hb => by
    obtain ⟨⟨old, he⟩, ⟨o, ho, hc, hd⟩, _⟩ := st
    have e' : b = e ∨ b = it := by simpa using hb
    rcases e' with z | z
    · rw [z]; exact ⟨_, he, fun v q => nomatch q⟩
    · rw [z]; exact ⟨o, ho, fun v q => by rw [hd] at q; cases q⟩
  keep := fun i h h' st k => let ⟨⟨old, he⟩, hi, hne⟩ := st; ⟨⟨old, k e (by simp) _ he⟩, hi.at fun o q => k it (by simp) o q, hne⟩
  item := by
    intro X hP hw hK hc i pins s σ H E I hf st hg
    subst hP hw hK
    obtain ⟨⟨old, he⟩, hit, hne, hai, hae⟩ := st
    obtain ⟨xs, x, hq, hx⟩ := hg
    obtain ⟨its, rv, p, hz⟩ := I.tuple hq
    obtain ⟨u, hu, ru⟩ := rv.get hx
    have hel : e < s.heap.objs.size := Heap.lt_size he
    have hil : it < s.heap.objs.size := by obtain ⟨_, q, _⟩ := hit; exact Heap.lt_size q
    have hlt : i < its.toArray.size := by
      obtain ⟨z, _⟩ := List.getElem?_eq_some_iff.mp hu
      simpa using z
    have p' : s.heap.IsTuple a its.toArray := p
    have hh : X.A.in1.handled = none := I.ok.hd hc
    refine wpAny_pyNext_enum_itemD (Draws.tuple hh it a hai its.toArray) he ⟨hit, p'⟩ hlt hne (by simp [hne, Ne.symm hae]) fun x' h' tk hx' ho hst' hT hsz hk => ?_
    obtain ⟨hit', _⟩ := hst'
    obtain rfl : u = x' := by
      have q : its.toArray[i]? = some x' := hx'
      rw [List.getElem?_toArray, hu] at q
      exact Option.some.inj q
    refine ⟨_, rfl, wpAny_letOwnedTupleGo_enum (s := { s with heap := h', toks := tk + 1 }) ho fun h'' he' sb => ?_⟩
    have hT2 : h''.get? s.heap.objs.size = some { cls := .type "tuple", data := .seq #[.int i tk, u] } := (sb.2 _ (Nat.ne_of_gt hel)).trans hT
    have new : ObjOk X.prog X.w (upd H s.heap.objs.size (.tup [.int (i : Nat), x])) h'' s.heap.objs.size (.tup [.int (i : Nat), x]) :=
      ⟨by show 2 ≤ sizeLine; decide, [.int i tk, u], .cons ⟨_, rfl⟩ (.cons ru .nil), ⟨_, hT2, rfl, _, rfl⟩⟩
    have I1 : Inv X pins σ (upd H s.heap.objs.size (.tup [.int (i : Nat), x])) { s with heap := h'', toks := tk + 1 } :=
      I.turnedNew (ch := [e, it]) (fun b ob hb q => (sb.2 b (fun z => hb (by simp [z]))).trans (hk b ob (fun z => hb (by simp [z])) (fun z => hb (by simp [z])) q)) hf (Nat.le_refl _) new
    refine ⟨.ref s.heap.objs.size, _, I1, rfl, ⟨_, x, rfl, I.hok.fresh (Nat.le_refl _), rfl, fun ys hy => by rw [I.tuple_inj hy hq]; exact hx⟩, ⟨⟨u, ?_⟩, hit'.at fun o q => (sb.2 it (Ne.symm hne)).trans q, hne, hai, hae⟩, fun b hb => ?_⟩
    · have e1 : ((i + 1 : Nat) : Int) = (i : Int) + 1 := by omega
      rw [e1]; exact he'
    · have hb' : b < s.heap.objs.size := by
        have e' : b = e ∨ b = it := by simpa using hb
        rcases e' with z | z
        · rw [z]; exact hel
        · rw [z]; exact hil
      rw [upd_ne (Nat.ne_of_lt hb')]
      exact (hf b hb).1
  done := by
    intro X hP hw hK hc i pins s σ H E I hf st hg
    subst hP hw hK
    obtain ⟨⟨old, he⟩, hit, hne, hai, hae⟩ := st
    obtain ⟨xs, hq, hx⟩ := hg
    obtain ⟨its, rv, p, hz⟩ := I.tuple hq
    obtain ⟨f0, f1, f2, f3, f4, f5⟩ := hf it (by simp)
    have hl := rv.length
    have p' : s.heap.IsTuple a its.toArray := p
    have hi : i = its.toArray.size := by simp; omega
    have hit2 : s.heap.IsTupleIter it a its.toArray.size := hi ▸ hit
    have hh : X.A.in1.handled = none := I.ok.hd hc
    exact wpAny_pyNext_enum_endD (Draws.tuple hh it a hai its.toArray) he ⟨hit2, p'⟩ fun h' eb => ⟨rfl, I.turned (t' := s.toks) (fun b o hb q => eb b o hb q) f0 f1 f3 f4 f5⟩
  self := fun A i s Q E st h => let ⟨⟨_, he⟩, _⟩ := st; wpAny_pyIter_enum he h
def iEnumT (K : PySem.W.Frag) (ta : TA) : TI := fun σ H R => ta σ H fun vs H1 => ∃ a xs, vs = [.ref a] ∧ SqT K H1 a xs ∧ R (IteT K a) H1
theorem pi_enumT {X : Cx} {e : Expr} {ta : TA} {p pos tpos : Pos} {elts : List Expr} {kk : Nat} (hg : Gl X "enumerate") (hm : X.mg "enumerate" = none) (ha : PA X [e] ta) (hs : starEach [e] X.env = [(false, eval e X.env)] := by rfl) :
    PI X (.Tuple elts kk tpos) (.Call (.Name "enumerate" p) [e] [] pos) (iEnumT X.K ta) := by
  refine ⟨fun pins s σ H R I h => ?_⟩
  refine Call_ (ld_blt I hg hm boot_enumerate (PyProof.Rows.callWith_type1 (thn (ha.run pos pins s σ H _ I h) fun us s1 ⟨vs, H1, I1, r1, q1⟩ => ?_) hs rfl))
  obtain ⟨a, xs, ex, hq, q⟩ := q1
  subst ex
  cases r1 with
  | cons r rr =>
    cases rr
    cases r
    obtain ⟨its, rv, p', hz⟩ := I1.tuple hq
    have p2 : s1.heap.IsTuple a its.toArray := p'
    have hal : a < s1.heap.objs.size := by obtain ⟨_, q, _⟩ := p2; exact Heap.lt_size q
    refine call_enumT (begins_tuple a its.toArray) p2 fun h' he hit hsz hk => wpAny_pyIter_enum he ?_
    have I2 : Inv X pins σ H1 { s1 with heap := h' } := I1.kept (t' := s1.toks) hk
    refine ⟨s1.heap.objs.size + 1, [s1.heap.objs.size + 1, s1.heap.objs.size], _, _, H1, rfl, I2, turn_enumT a (s1.heap.objs.size + 1) s1.heap.objs.size, ⟨⟨.none, he⟩, ⟨_, hit, rfl, rfl⟩, Nat.succ_ne_self _, Nat.ne_of_lt hal, fun z => absurd (show s1.heap.objs.size + 1 < s1.heap.objs.size from z ▸ hal) (by omega)⟩, fun b hb => ?_, q⟩
    have e' : b = s1.heap.objs.size + 1 ∨ b = s1.heap.objs.size := by simpa using hb
    have hle : s1.heap.objs.size ≤ b := by
      rcases e' with z | z
      · rw [z]; exact Nat.le_add_right _ _
      · rw [z]; exact Nat.le_refl _
    exact I1.fpOk hle (I1.hok.fresh hle)
theorem walk_enumT {K : PySem.W.Frag} {a : Addr} {xs : List V} : Walk (IteT K a) xs.length (fun H => SqT K H a xs) (YPair (fun i => some (.int (i : Nat))) (fun i => xs[i]?)) := by
  refine ⟨fun i _ hi q => ⟨xs, xs[i], q, by simp [hi]⟩, fun _ q => ⟨xs, q, rfl⟩, fun i H v H' _ q y => ?_⟩
  obtain ⟨T, x, h1, h2, h3, h4⟩ := y
  exact ⟨T, .int (i : Nat), x, h1, h2, h3, rfl, h4 xs q⟩
end Vf

set_option maxRecDepth 100000
set_option maxHeartbeats 4000000
namespace Vf
open PySem PySem.Spec PyProof.Rows L2
theorem sw_dict {kx vx : Expr} {gs : List Comprehension} {scope : Scope} {pos py : Pos} {y : Str} {l : Nat} {env : Env} (hk : env.scope.kind = .function) (hy : env.scope.names.lookup y = some .local)
    (hl : (py.line == pos.line) = true) (ha : (scope.names.any fun (n, k) => n == y && (k == .local || k == .cell)) = false) : swapsWith (.DictComp kx vx gs scope pos) (some (.Name y py)) l env = pure true := by
  have k1 : env.kindOf y = some .local := hy
  have k2 : env.blockKind = .function := by
    unfold Env.blockKind
    rw [hk]
    rfl
  unfold swapsWith
  simp only [k2, k1, ha, Expr.pos, hl]
  rfl
theorem ps_setDc {X : Cx} {i : Nat} {y : Str} {py : Pos} {kx vx tg iter : Expr} {ifs : List Expr} {scope : Scope} {own : List (Str × Nat)} {pos spos : Pos} {wi : TI} {g : TG} {tt : TT} {tk tv : TE} (hc : X.calm = true) (hN : X.N.Nodup)
    (hy : X.N[i]? = some y) (hyl : X.env.scope.names.lookup y = some .local) (hsw : swapsWith (.DictComp kx vx [⟨tg, iter, ifs, 0⟩] scope pos) (some (.Name y py)) spos.line X.env = pure true)
    (hi : PI X tg iter wi) (ok : BlkOk X.N X.env.scope scope own)
    (hg : ∀ (s : Shared) (H : Hp) (C : Addr) (cl : List (Str × Addr)) (fp : List Addr), PG (X.blk s H scope (compEnvC scope cl C X.env) fp) tg g)
    (ht : ∀ (s : Shared) (H : Hp) (C : Addr) (cl : List (Str × Addr)) (fp : List Addr), PTs (X.blk s H scope (compEnvC scope cl C X.env) fp) ifs tt)
    (hk : ∀ (s : Shared) (H : Hp) (C : Addr) (cl : List (Str × Addr)) (fp : List Addr), PE (X.blk s H scope (compEnvC scope cl C X.env) fp) kx tk)
    (he : ∀ (s : Shared) (H : Hp) (C : Addr) (cl : List (Str × Addr)) (fp : List Addr), PE (X.blk s H scope (compEnvC scope cl C X.env) fp) vx tv)
    (hs : ∀ x, foldedSetIterable iter X.env x = pure x := by intro _; rfl) :
    PS X (.Assign [.Name y py] (.DictComp kx vx [⟨tg, iter, ifs, 0⟩] scope pos) spos) (tAsg (tDc wi g tt tk tv (own.map (·.2))) (gName i)) := by
  constructor
  intro pins s σ H D I h
  rw [exec_Assign_Name_used _ _ _ _ hsw]
  refine wpAny_bind (wpAny_standAt (wpAny_bind (show wpAny _ X.A (do
    let _ ← comprehension (.DictComp kx vx [⟨tg, iter, ifs, 0⟩] scope pos) scope X.env (firstIterPos [⟨tg, iter, ifs, 0⟩] pos) newDict false (eval iter X.env) (some (assign (.Name y py) X.env))) _ _ s from ?_)))
  have h' : tDc wi g tt tk tv (own.map (·.2)) σ H (fun x H1 => gName i x σ H1 D.nx) := h
  refine wpAny_bind (thn (dc_core (Qf := fun _ s' => SP X pins D .next s') hc hN I hi ok hg ht hk he hs h' ?_) fun _ s' hq => wpAny_pure (wpAny_pure hq))
  rintro L C s' m H' I' q hn ⟨f0, f1, f2, f3, f4, f5⟩
  refine wpAny_assign_Name (store_ok2 (v := V.ref L) I' hN hy (.inl hyl) rfl ?_ (.inr hyl))
  rintro s2 I2 ⟨a, sb, ha⟩
  have hCa : C ≠ a := by
    rcases ha with z | z
    · exact fun e => f1 (e.trans z)
    · exact fun e => f4 y a z e.symm
  exact ⟨m, hn.sameBut sb hCa, fun h3 sb3 => ⟨_, H', I2.turned (t' := s2.toks) (fun b o hb e => (sb3.2 b hb).trans e) f0 f1 f3 f4 f5, q⟩⟩
end Vf

set_option maxRecDepth 100000
set_option maxHeartbeats 4000000
namespace Vf
open PySem PySem.Spec PyProof.Rows L2
abbrev dc2 (kx vx t0 i0 t1 i1 : Expr) (scope : Scope) (pos : Pos) : Expr := .DictComp kx vx [⟨t0, i0, [], 0⟩, ⟨t1, i1, [], 0⟩] scope pos
section
variable {kx vx t0 i0 t1 i1 : Expr} {scope : Scope} {pos : Pos} {it : Value} {D : Addr} {env : Env}
theorem dc2_outer : compTurn (dc2 kx vx t0 i0 t1 i1 scope pos) 0 it (.ref D) env = (standAt i0.pos >>= fun _ => pyNext it >>= fun r => match r with
    | none => pure (.done .next)
    | some v => letOwnedTupleGo t0 it v >>= fun _ => assign t0 env v >>= fun _ => eval i1 env >>= fun x => standAt i1.pos >>= fun _ => foldedSetIterable i1 env x >>= fun y =>
        holding [y] (pyIter y) >>= fun j => runOwn (.compStart (dc2 kx vx t0 i0 t1 i1 scope pos) 1 j (.ref D) env) env >>= fun _ => again (.compLoop (dc2 kx vx t0 i0 t1 i1 scope pos) 0 it (.ref D) env)) := by rfl
theorem dc2_inner : compTurn (dc2 kx vx t0 i0 t1 i1 scope pos) 1 it (.ref D) env = (standAt i1.pos >>= fun _ => pyNext it >>= fun r => match r with
    | none => pure (.done .next)
    | some v => letOwnedTupleGo t1 it v >>= fun _ => assign t1 env v >>= fun _ => (eval kx env >>= fun a => holding [a] (eval vx env) >>= fun b =>
        standAt { kx.pos with endLine := vx.pos.endLine, endCol := vx.pos.endCol } >>= fun _ => holding [a, b] (dictSet D a b)) >>= fun _ => again (.compLoop (dc2 kx vx t0 i0 t1 i1 scope pos) 1 it (.ref D) env)) := by rfl
end
section
variable {prog : Program} {w : World} {A : Around} {R : Result → Shared → Prop} {s : Shared} {kx vx t0 i0 t1 i1 : Expr} {scope : Scope} {pos : Pos} {it : Value} {D : Addr} {env : Env}
/-- the outer loop, by an invariant with a measure -/
theorem dc2_loop0 (fold : ∀ x, foldedSetIterable i1 env x = pure x) (J : Nat → Shared → Prop)
    (go : ∀ m s₁, J m s₁ → wpAny (model prog w) A (pyNext it) (fun r s₂ => match r with
      | none => R (.ok .next) s₂
      | some v => wpAny (model prog w) A (letOwnedTupleGo t0 it v) (fun _ s₃ => wpAny (model prog w) A (assign t0 env v) (fun _ s₄ => wpAny (model prog w) A (eval i1 env) (fun x s₅ => wpAny (model prog w) A (pyIter x) (fun j s₆ =>
          codeAny (model prog w) A (.compStart (dc2 kx vx t0 i0 t1 i1 scope pos) 1 j (.ref D) env) (fun out s₇ => match out with
            | .ok _ => ∃ l, l < m ∧ J l s₇
            | .error _ => False) s₆) (notedBy (model prog w) A env fun e s' => R (.error e) s') s₅) (notedBy (model prog w) A env fun e s' => R (.error e) s') s₄) (notedBy (model prog w) A env fun e s' => R (.error e) s') s₃)
          (notedBy (model prog w) A env fun e s' => R (.error e) s') s₂) (notedBy (model prog w) A env fun e s' => R (.error e) s') s₁)
    (m : Nat) (h : J m s) : codeAny (model prog w) A (.compLoop (dc2 kx vx t0 i0 t1 i1 scope pos) 0 it (.ref D) env) R s := by
  refine codeAny_loop rfl J (fun m s₁ hJ => ?_) m h
  show wpAny _ A ((compTurn (dc2 kx vx t0 i0 t1 i1 scope pos) 0 it (.ref D) env).onRaise (fun e => do noteFrame e env; theTreesLotGoes e)) _ _ s₁
  refine wpAny_noted ?_
  rw [dc2_outer]
  refine wpAny_bind (wpAny_standAt (wpAny_bind (wpAny_mono (go m s₁ hJ) (fun r s₂ k => ?_) fun _ _ z => z)))
  match r, k with
  | none, k => exact wpAny_pure k
  | some v, k =>
    refine wpAny_bind (wpAny_mono k (fun _ s₃ k => wpAny_bind (wpAny_mono k (fun _ s₄ k => wpAny_bind (wpAny_mono k (fun x s₅ k => ?_) fun _ _ z => z)) fun _ _ z => z)) fun _ _ z => z)
    refine wpAny_bind (wpAny_standAt (wpAny_bind (wpAny_of_eq (fold x) (wpAny_bind (wpAny_holding (wpAny_mono k (fun j s₆ k => wpAny_bind (wpAny_runOwn ?_)) fun _ _ z => z))))))
    rw [Around.mark_none]
    refine codeAny_mono k fun out s₇ k => ?_
    match out, k with
    | .ok _, k =>
      first
        | exact wpAny_pure ⟨rfl, k⟩
        | exact wpAny_bind (wpAny_pure (wpAny_pure ⟨rfl, k⟩))
    | .error _, k => exact k.elim
/-- the inner loop -/
theorem dc2_loop1 (J : Nat → Shared → Prop)
    (go : ∀ m s₁, J m s₁ → wpAny (model prog w) A (pyNext it) (fun r s₂ => match r with
      | none => R (.ok .next) s₂
      | some v => wpAny (model prog w) A (letOwnedTupleGo t1 it v) (fun _ s₃ => wpAny (model prog w) A (assign t1 env v) (fun _ s₄ => wpAny (model prog w) A (eval kx env) (fun a s₅ => wpAny (model prog w) A (eval vx env) (fun b s₆ =>
          wpAny (model prog w) A (dictSet D a b) (fun _ s₇ => ∃ l, l < m ∧ J l s₇) (notedBy (model prog w) A env fun e s' => R (.error e) s') s₆) (notedBy (model prog w) A env fun e s' => R (.error e) s') s₅) (notedBy (model prog w) A env fun e s' => R (.error e) s') s₄)
          (notedBy (model prog w) A env fun e s' => R (.error e) s') s₃) (notedBy (model prog w) A env fun e s' => R (.error e) s') s₂) (notedBy (model prog w) A env fun e s' => R (.error e) s') s₁)
    (m : Nat) (h : J m s) : codeAny (model prog w) A (.compLoop (dc2 kx vx t0 i0 t1 i1 scope pos) 1 it (.ref D) env) R s := by
  refine codeAny_loop rfl J (fun m s₁ hJ => ?_) m h
  show wpAny _ A ((compTurn (dc2 kx vx t0 i0 t1 i1 scope pos) 1 it (.ref D) env).onRaise (fun e => do noteFrame e env; theTreesLotGoes e)) _ _ s₁
  refine wpAny_noted ?_
  rw [dc2_inner]
  refine wpAny_bind (wpAny_standAt (wpAny_bind (wpAny_mono (go m s₁ hJ) (fun r s₂ k => ?_) fun _ _ z => z)))
  match r, k with
  | none, k => exact wpAny_pure k
  | some v, k =>
    refine wpAny_bind (wpAny_mono k (fun _ s₃ k => wpAny_bind (wpAny_mono k (fun _ s₄ k => wpAny_bind (wpAny_bind (wpAny_mono k (fun a s₅ k => ?_) fun _ _ z => z))) fun _ _ z => z)) fun _ _ z => z)
    exact wpAny_bind (wpAny_holding (wpAny_mono k (fun b s₆ k => wpAny_bind (wpAny_standAt (wpAny_holding (wpAny_mono k (fun _ s₇ k => wpAny_pure ⟨rfl, k⟩) fun _ _ z => z)))) fun _ _ z => z))
/-- the inner loop's start -/
theorem dc2_start1 (h0 : codeAny (model prog w) A (.compLoop (dc2 kx vx t0 i0 t1 i1 scope pos) 1 it (.ref D) env) R s)
    (h : wpAny (model prog w) A (pyIter it) (fun j s' => codeAny (model prog w) A (.compLoop (dc2 kx vx t0 i0 t1 i1 scope pos) 1 j (.ref D) env) R s') (notedBy (model prog w) A env fun e s' => R (.error e) s') s) :
    codeAny (model prog w) A (.compStart (dc2 kx vx t0 i0 t1 i1 scope pos) 1 it (.ref D) env) R s := by
  refine codeAny_of_tree ?_
  show wpAny _ A ((compStart (dc2 kx vx t0 i0 t1 i1 scope pos) 1 it (.ref D) env).onRaise (fun e => do noteFrame e env; standAt theWindowsPlace)) _ _ s
  refine wpAny_notedAt ?_
  unfold compStart
  show wpAny _ A (ask >>= _) _ _ s
  refine wpAny_bind (wpAny_askSetting (wpAny_ite ?_))
  split
  · first
      | exact wpAny_bind (wpAny_pure (wpAny_pure ⟨rfl, h0⟩))
      | exact wpAny_pure ⟨rfl, h0⟩
  · refine wpAny_bind (wpAny_rule ?_)
    show wpAny _ A (standAt i1.pos >>= _) _ _ s
    exact wpAny_bind (wpAny_standAt (wpAny_bind (wpAny_mono h (fun _ _ k => wpAny_pure ⟨rfl, k⟩) fun _ _ z => z)))
end
/-- the reading: the keys and values of the turns of the inner walk, stored one by one -/
def tDc2 (wi : TI) (g : TG) (wi1 : TI) (g1 : TG) (tk tv : TE) (vs vs1 : List Nat) : TE := fun σ H Q => wi σ H fun J Ha => ∀ D, Ha D = none → ∃ W : Nat → Nat → Hp → Prop, (∃ m, W 0 m (upd Ha D (.dK []))) ∧ ∀ i m Hb, W i m Hb →
  (J.stop i Hb ∧ Q (.ref D) Hb) ∨ (J.go i Hb ∧ ∃ Nx : Hp → Prop, (∀ Hc, Nx Hc → ∃ l, l < m ∧ W (i + 1) l Hc) ∧ ∀ x Hc, J.yld i Hb x Hc → g x (wipe σ vs) Hc fun τ Hd => wipe τ vs = wipe σ vs ∧ wi1 τ Hd fun J1 He =>
    ∃ W1 : Nat → Nat → Hp → Prop, (∃ m, W1 0 m He) ∧ ∀ j n Hf, W1 j n Hf → (J1.stop j Hf ∧ Nx Hf) ∨ (J1.go j Hf ∧ ∃ N1 : Hp → Prop, (∀ Hg, N1 Hg → ∃ l, l < n ∧ W1 (j + 1) l Hg) ∧ ∀ y Hg, J1.yld j Hf y Hg →
      g1 y (wipe τ vs1) Hg fun υ Hh => wipe υ vs1 = wipe τ vs1 ∧ tk υ Hh fun a Hi => tv υ Hi fun b Hj => ∃ kvs k, a = kV k ∧ Hj D = some (.dK kvs) ∧ kvs.length < sizeLine ∧ N1 (upd Hj D (.dK (putK kvs k b)))))
theorem pe_dc2 {X : Cx} {kx vx t0 i0 t1 i1 : Expr} {scope : Scope} {own : List (Str × Nat)} {vs1 : List Nat} {pos : Pos} {wi wi1 : TI} {g g1 : TG} {tk tv : TE} (calm : X.calm = true) (nd : X.N.Nodup) (src : PI X t0 i0 wi) (blk : BlkOk X.N X.env.scope scope own) (sub : ∀ i ∈ vs1, i ∈ own.map (·.2))
    (pg0 : ∀ s H C cl fp, PG (X.blk s H scope (compEnvC scope cl C X.env) fp) t0 g) (src1 : ∀ s H C cl fp, PI (X.blk s H scope (compEnvC scope cl C X.env) fp) t1 i1 wi1) (pg1 : ∀ s H C cl fp, PG (X.blk s H scope (compEnvC scope cl C X.env) fp) t1 g1)
    (key : ∀ s H C cl fp, PE (X.blk s H scope (compEnvC scope cl C X.env) fp) kx tk) (val : ∀ s H C cl fp, PE (X.blk s H scope (compEnvC scope cl C X.env) fp) vx tv)
    (fold0 : ∀ x, foldedSetIterable i0 X.env x = pure x := by intro _; rfl) (fold1 : ∀ env x, foldedSetIterable i1 env x = pure x := by intro _ _; rfl) :
    PE X (dc2 kx vx t0 i0 t1 i1 scope pos) (tDc2 wi g wi1 g1 tk tv (own.map (·.2)) vs1) := by
  refine ⟨fun pins s σ H Q I h => ?_⟩
  rw [arm_eval_DictComp]
  have captured : ∀ y ∈ scope.names, y.2 = .free → ∃ c, X.env.cells.lookup y.1 = some c := fun y hy e => (blk.free y hy e).elim (fun z => I.ok.has _ (.inl z)) fun z => I.ok.has _ (.inr z)
  refine wpAny_comprehension_free rfl fold0 (closure_ok captured) blk.kind (fun y hy e => by rw [blk.uniq y hy, e]) (thn (src.run pins s σ H _ I h) fun xv sa hx => thn hx fun itv sb hb => ?_)
  obtain ⟨it, fp, tn, J, Ha, rfl, Ia, T, st, fr, q⟩ := hb
  refine wpAny_newObj_type (newEnv_comp ?_)
  generalize hD : sb.heap.objs.size = D
  have freshD : Ha D = none := Ia.hok.fresh (Nat.le_of_eq hD)
  obtain ⟨W, ⟨m0, w0⟩, turn⟩ := q D freshD
  generalize hsc : ({ sb with heap := sb.heap.push { cls := .type "dict", data := .dict #[] } } : Shared) = sc
  have Ic : Inv X pins σ (upd Ha D (.dK [])) sc := by
    rw [← hsc, ← hD]
    exact Ia.laid (t' := sb.toks) (fun b o e => Heap.get?_push_of_some _ e) (Nat.le_refl _) (dk_empty sb.heap Ia.big)
  have heapc : sc.heap = sb.heap.push { cls := .type "dict", data := .dict #[] } := by rw [← hsc]
  have small : ∀ b ∈ fp, b < sb.heap.objs.size := fun b hb => let ⟨_, e, _⟩ := T.obj _ _ st b hb; Heap.lt_size e
  have frc : ∀ b ∈ fp, FpOk X pins (upd Ha D (.dK [])) b ∧ b < sc.heap.objs.size := by
    intro b hb
    have lt := small b hb
    constructor
    · refine ⟨?_, (fr b hb).2⟩
      rw [upd_ne (by rw [← hD]; exact Nat.ne_of_lt lt)]
      exact (fr b hb).1
    · rw [heapc, Heap.size_push]
      exact Nat.lt_succ_of_lt lt
  have stc : tn 0 sc.heap := T.keep _ _ _ st fun b _ o e => by rw [heapc]; exact Heap.get?_push_of_some _ e
  have Id := block_start Ic blk nd frc
  generalize hcl : cellsFrom (sc.heap.objs.size + 1) scope.names (cloFrom X.env.cells scope.names []) = cl at Id
  have pgA := pg0 sc (upd Ha D (.dK [])) sc.heap.objs.size cl fp
  have pgB := pg1 sc (upd Ha D (.dK [])) sc.heap.objs.size cl fp
  have piB := src1 sc (upd Ha D (.dK [])) sc.heap.objs.size cl fp
  have peK := key sc (upd Ha D (.dK [])) sc.heap.objs.size cl fp
  have peV := val sc (upd Ha D (.dK [])) sc.heap.objs.size cl fp
  show codeAny _ _ (.compStart (dc2 kx vx t0 i0 t1 i1 scope pos) 0 (.ref it) (.ref D) (compEnvC scope cl sc.heap.objs.size X.env)) (compPost (model X.prog X.w) X.A X.xe none (EP X pins σ Q) (.ref D) sc.heap.objs.size)
    { sc with heap := pushCells (sc.heap.push { cls := .type "dict", data := .dict #[] }) scope.names }
  have clean : ∀ b ∈ fp, (upd Ha D (.dK [])) b = none := fun b hb => (frc b hb).1.1
  generalize hce : compEnvC scope cl sc.heap.objs.size X.env = ce at Id pgA pgB piB peK peV ⊢
  have loc : ce.locals = sc.heap.objs.size := by rw [← hce]; rfl
  generalize upd Ha D (.dK []) = Hc at Ic Id pgA pgB piB peK peV w0 clean frc
  generalize hsd : ({ sc with heap := pushCells (sc.heap.push { cls := .type "dict", data := .dict #[] }) scope.names } : Shared) = sd at Id ⊢
  have std : tn 0 sd.heap := T.keep _ _ _ stc fun b _ o e => by rw [← hsd]; exact pushCells_keeps _ _ _ _ (Heap.get?_push_of_some _ e)
  have mine : ∀ {τ : L2.St} {H' : Hp} {s' : Shared}, Inv (X.blk sc Hc scope ce fp) [] τ H' s' → (∀ b ∈ fp, H' b = none) → ∀ b ∈ fp, FpOk (X.blk sc Hc scope ce fp) [] H' b := by
    intro τ H' s' I' free b hb
    exact ⟨free b hb, (I'.ok.exf b hb).1, I'.ok.exfs b hb, .inl hb, fun y c e => (I'.ok.exf b hb).2 y c e, fun p hp => nomatch (show p ∈ ([] : List (Addr × Obj)) ++ [] from hp)⟩
  -- what holds ahead of each turn of the outer walk
  let J0 : Nat → Shared → Prop := fun m s' => ∃ i H', Inv (X.blk sc Hc scope ce fp) [] (wipe σ (own.map (·.2))) H' s' ∧ tn i s'.heap ∧ (∀ b ∈ fp, H' b = none) ∧ W i m H'
  have outer : codeAny (model X.prog X.w) X.A (.compLoop (dc2 kx vx t0 i0 t1 i1 scope pos) 0 (.ref it) (.ref D) ce) (compPost (model X.prog X.w) X.A X.xe none (EP X pins σ Q) (.ref D) sc.heap.objs.size) sd := by
    refine dc2_loop0 (fold1 ce) J0 ?_ m0 ⟨0, Hc, Id, std, clean, w0⟩
    rintro m se ⟨i, He, Ie, ste, free, we⟩
    rcases turn i m He we with ⟨stop, qq⟩ | ⟨go, Nx, more, step⟩
    · refine thnF (T.done (X.blk sc Hc scope ce fp) rfl rfl rfl calm i [] se _ He (fun _ _ => False) Ie (mine Ie free) ste stop) fun r sf ⟨hr, If⟩ => ?_
      subst hr
      have Ig : Inv X pins σ He sf := Ic.call' (ch := fp) If.os If.base If.hok If.bare fun b hb => let z := (frc b hb).1.2; ⟨z.2.2.1, z.1, z.2.2.2.1, z.2.2.2.2⟩
      have gone : He sc.heap.objs.size = none := by
        have z : He ce.locals = none := If.free
        rwa [loc] at z
      obtain ⟨ns, hns, _⟩ := If.loc
      have hns : sf.heap.Ns ce.locals ns := hns
      rw [loc] at hns
      obtain ⟨f0, f1, f2, f3, f4, f5⟩ := Ic.fpOk (Nat.le_refl _) gone
      refine ⟨ns, hns, fun hz sb => ?_⟩
      exact ⟨.ref D, He, Ig.turned (t' := sf.toks) (fun b o hb e => (sb.2 b hb).trans e) f0 f1 f3 f4 f5, rfl, qq⟩
    · refine thnF (T.item (X.blk sc Hc scope ce fp) rfl rfl rfl calm i [] se _ He (fun _ _ => False) Ie (mine Ie free) ste go) fun r sf ⟨u, hr, hf⟩ => ?_
      subst hr
      refine thnF hf fun _ sg ⟨x, Hg, Ig, rx, yx, stg, freeg⟩ => ?_
      have Ig' := Ig.pinned (mine Ig freeg) (T.obj _ _ stg)
      refine thnF (pgA.run _ sg _ Hg x u _ Ig' rx (step x Hg yx)) fun _ sh ⟨τ, Hh, Ih, wτ, qh⟩ => ?_
      -- the end of a turn
      have ends : ∀ {υ : L2.St} {s' : Shared} {H' : Hp}, Inv (X.blk sc Hc scope ce fp) ([] ++ pinsAt fp sg.heap) υ H' s' → (wipe σ (own.map (·.2))).length = υ.length → (∀ (j : Nat) v, (wipe σ (own.map (·.2)))[j]? = some (some v) → υ[j]? = some (some v)) → Nx H' → ∃ l, l < m ∧ J0 l s' := by
        intro υ s' H' I' len known nx
        obtain ⟨l, hl, wl⟩ := more H' nx
        have still : ∀ b ∈ fp, ∀ o, sg.heap.get? b = some o → s'.heap.get? b = some o ∧ H' b = none := fun b hb o e =>
          let z := I'.pin (b, o) (List.mem_append_right _ (List.mem_append_right _ (mem_pinsAt hb e)))
          ⟨z.1, z.2.1⟩
        refine ⟨l, hl, i + 1, H', (I'.unpinned (pins := [])).weak len known, T.keep _ _ _ stg fun b hb o e => (still b hb o e).1, fun b hb => ?_, wl⟩
        obtain ⟨o, e, _⟩ := T.obj _ _ stg b hb
        exact (still b hb o e).2
      have lenτ : (wipe σ (own.map (·.2))).length = (wipe τ vs1).length := by rw [← wτ, wipe_length, wipe_length]
      have knownτ : ∀ (j : Nat) v, (wipe σ (own.map (·.2)))[j]? = some (some v) → (wipe τ vs1)[j]? = some (some v) := by
        intro j v e
        rw [← wτ] at e
        obtain ⟨ea, eb⟩ := wipe_some e
        rw [wipe_out fun z => eb (sub j z)]
        exact ea
      refine thnF (piB.run _ sh τ Hh _ Ih qh) fun yv si hi => thnF hi fun jv sj hj => ?_
      obtain ⟨it1, fp1, tn1, J1, Hj, rfl, Ij, T1, stj, frj, W1, ⟨m1, w1⟩, turn1⟩ := hj
      have mine1 : ∀ {H' : Hp}, (∀ b ∈ fp1, H' b = none) → ∀ b ∈ fp1, FpOk (X.blk sc Hc scope ce fp) ([] ++ pinsAt fp sg.heap) H' b := fun free b hb => ⟨free b hb, (frj b hb).2⟩
      let JI : Nat → Shared → Prop := fun n s' => ∃ j H', Inv (X.blk sc Hc scope ce fp) ([] ++ pinsAt fp sg.heap) (wipe τ vs1) H' s' ∧ tn1 j s'.heap ∧ (∀ b ∈ fp1, H' b = none) ∧ W1 j n H'
      have inner : codeAny (model X.prog X.w) X.A (.compLoop (dc2 kx vx t0 i0 t1 i1 scope pos) 1 (.ref it1) (.ref D) ce) (fun out s' => match out with
          | .ok _ => ∃ l, l < m ∧ J0 l s'
          | .error _ => False) sj := by
        refine dc2_loop1 JI ?_ m1 ⟨0, Hj, Ij.weak (wipe_length _ _) (fun j v e => (wipe_some e).1), stj, fun b hb => (frj b hb).1, w1⟩
        rintro n sk ⟨j, Hk, Ik, stk, freek, wk⟩
        rcases turn1 j n Hk wk with ⟨stop1, nx⟩ | ⟨go1, N1, more1, step1⟩
        · refine thnF (T1.done (X.blk sc Hc scope ce fp) rfl rfl rfl calm j _ sk (wipe τ vs1) Hk (fun _ _ => False) Ik (mine1 freek) stk stop1) fun r sl ⟨hr, Il⟩ => ?_
          subst hr
          exact ends Il lenτ knownτ nx
        · refine thnF (T1.item (X.blk sc Hc scope ce fp) rfl rfl rfl calm j _ sk (wipe τ vs1) Hk (fun _ _ => False) Ik (mine1 freek) stk go1) fun r sl ⟨u1, hr, hl⟩ => ?_
          subst hr
          refine thnF hl fun _ sm ⟨y, Hm, Im, ry, yy, stm, freem⟩ => ?_
          have Im' := Im.pinned (mine1 freem) (T1.obj _ _ stm)
          refine thnF (pgB.run _ sm (wipe τ vs1) Hm y u1 _ Im' ry (step1 y Hm yy)) fun _ sn ⟨υ, Hn, In, wυ, qn⟩ => ?_
          refine thnF (peK.run _ sn υ Hn _ In qn) fun a so ⟨ya, Ho, Io, ra, qo⟩ => ?_
          refine thnF (peV.run _ so υ Ho _ Io qo) fun b sp ⟨yb, Hp', Ip, rb, kvs, k, ek, hDp, few, nx⟩ => ?_
          subst ek
          refine d_dictSet (X := X.blk sc Hc scope ce fp) Ip hDp few ra rb fun sq Iq => ?_
          obtain ⟨l, hl1, wl⟩ := more1 _ nx
          have still : ∀ b ∈ fp1, ∀ o, sm.heap.get? b = some o → sq.heap.get? b = some o ∧ (upd Hp' D (.dK (putK kvs k yb))) b = none := fun b hb o e =>
            let z := Iq.pin (b, o) (List.mem_append_right _ (List.mem_append_right _ (mem_pinsAt hb e)))
            ⟨z.1, z.2.1⟩
          refine ⟨l, hl1, j + 1, _, Iq.unpinned.weak (by rw [← wυ, wipe_length]) (fun j v e => by rw [← wυ] at e; exact (wipe_some e).1), T1.keep _ _ _ stm fun b hb o e => (still b hb o e).1, fun b hb => ?_, wl⟩
          obtain ⟨o, e, _⟩ := T1.obj _ _ stm b hb
          exact (still b hb o e).2
      exact dc2_start1 inner (T1.self X.A 0 _ _ _ stj inner)
  exact codeAny_compStart_dict outer (T.self X.A 0 _ _ _ std outer)
end Vf

set_option maxRecDepth 100000
set_option maxHeartbeats 8000000
namespace Vf
open PySem PySem.Spec PyProof.Rows L2
def srtCs (cs : List (Str × Nat)) : List (Str × Nat) := (srt (cs.map Prod.fst)).map fun z => (z, sizeOfD cs z)
def numPr (ls : List (List Str)) : List (Key × V) := ls.zipIdx.flatMap fun q => q.1.map fun z => (Sum.inr z, V.int (q.2 : Int))
def rTup (K : PySem.W.Frag) : List V → Hp → VK → Prop := fun xs H Q => ∃ p ys, xs = [.ref p] ∧ ((SqL K H p ys ∧ ∀ l, H l = none → Q (.ref l) (upd H l (.tup ys))) ∨ (SqT K H p ys ∧ Q (.ref p) H))
theorem cr_tup {X : Cx} {K : PySem.W.Frag} (hK : X.K = K) : CallR X (.type "tuple") (rTup K) := by
  subst hK
  exact call_tuple_of
def lflds (sd : Addr) (r : Nat) (t nd : Addr) : List (Str × V) := [("_sizes", V.ref sd), ("room", V.int (r : Int)), ("lines", V.ref t), ("_numbers", V.ref nd)]
theorem putF_ne {f g : Str} {v x : V} {r : List (Str × V)} (h : ¬ g = f) : putF f v ((g, x) :: r) = (g, x) :: putF f v r := if_neg h
theorem lflds_put (sd : Addr) (r : Nat) (t nd : Addr) : putF "_numbers" (.ref nd) (putF "lines" (.ref t) (putF "room" (.int (r : Int)) (putF "_sizes" (.ref sd) []))) = lflds sd r t nd := by
  have a1 : putF ("_sizes" : Str) (V.ref sd) [] = [(("_sizes" : Str), V.ref sd)] := rfl
  rw [a1, putF_ne (by decide +kernel)]
  have a2 : putF ("room" : Str) (V.int (r : Int)) [] = [(("room" : Str), V.int (r : Int))] := rfl
  rw [a2, putF_ne (by decide +kernel), putF_ne (by decide +kernel)]
  have a3 : putF ("lines" : Str) (V.ref t) [] = [(("lines" : Str), V.ref t)] := rfl
  rw [putF_ne (by decide +kernel), a3, putF_ne (by decide +kernel), putF_ne (by decide +kernel)]
  rfl
theorem lk_ne {f g : Str} {v : V} {r : List (Str × V)} (h : (g == f) = false) : List.lookup g ((f, v) :: r) = List.lookup g r := by rw [List.lookup_cons, h]
theorem lk_sizes {sd : Addr} {r : Nat} {t nd : Addr} : (lflds sd r t nd).lookup ("_sizes" : Str) = some (.ref sd) := by unfold lflds; rw [List.lookup_cons_self]
theorem lk_room {sd : Addr} {r : Nat} {t nd : Addr} : (lflds sd r t nd).lookup ("room" : Str) = some (.int (r : Int)) := by unfold lflds; rw [lk_ne (by decide +kernel), List.lookup_cons_self]
theorem lk_lines {sd : Addr} {r : Nat} {t nd : Addr} : (lflds sd r t nd).lookup ("lines" : Str) = some (.ref t) := by unfold lflds; rw [lk_ne (by decide +kernel), lk_ne (by decide +kernel), List.lookup_cons_self]
theorem lk_numbers {sd : Addr} {r : Nat} {t nd : Addr} : (lflds sd r t nd).lookup ("_numbers" : Str) = some (.ref nd) := by unfold lflds; rw [lk_ne (by decide +kernel), lk_ne (by decide +kernel), lk_ne (by decide +kernel), List.lookup_cons_self]
structure TxtL (K : PySem.W.Frag) (mg : Str → Option Value) (C : Addr) : Prop where
  cl : Cls K C
  nS : NoAttr K C "_sizes"
  nR : NoAttr K C "room"
  nL : NoAttr K C "lines"
  nN : NoAttr K C "_numbers"
  mgC : mg "Layout" = some (.ref C)
theorem numPr_step {ls : List (List Str)} {i : Nat} {ws : List Str} (h : ls[i]? = some ws) : numPr (ls.take (i + 1)) = numPr (ls.take i) ++ ws.map fun z => (Sum.inr z, V.int (i : Int)) := by
  have hl : (ls.take i).length = i := by
    rw [List.length_take]
    have := (List.getElem?_eq_some_iff.mp h).1
    omega
  unfold numPr
  rw [List.take_add_one, h, Option.toList_some, List.zipIdx_append, List.flatMap_append, hl, Nat.zero_add]
  simp
theorem numPr_len {ls : List (List Str)} : (numPr ls).length = ls.flatten.length := by
  have e : ∀ (ls : List (List Str)) (k : Nat), ((ls.zipIdx k).flatMap fun q => q.1.map fun z => ((Sum.inr z, V.int (q.2 : Int)) : Key × V)).length = ls.flatten.length := by
    intro ls
    induction ls with
    | nil => intro k; rfl
    | cons w r ih =>
      intro k
      rw [List.zipIdx_cons, List.flatMap_cons, List.length_append, ih, List.flatten_cons, List.length_append, List.length_map]
  exact e ls 0
theorem flat_srt : ∀ ps : List (Addr × List Str), (ps.map fun p => srt p.2).flatten.length = (ps.flatMap Prod.snd).length
  | [] => rfl
  | a :: r => by rw [List.map_cons, List.flatten_cons, List.length_append, List.flatMap_cons, List.length_append, (srt_perm a.2).length_eq, flat_srt r]
theorem none_back {H H' : Hp} {a : Addr} (s : Same H H') (h : H' a = none) : H a = none := by
  cases e : H a with
  | none => rfl
  | some o => rw [s _ _ e] at h; cases h
theorem none_but {p a : Addr} {H H' : Hp} {o : HO} (b : But p H H') (hp : H' p = some o) (h : H' a = none) : H a = none := by
  cases e : H a with
  | none => rfl
  | some u =>
    have hn : a ≠ p := fun z => by rw [z, hp] at h; cases h
    rw [b _ _ hn e] at h
    cases h
/-- a layout: cells with sizes by name, room, lines -/
def LayAt (C : Addr) (H : Hp) (p sd nd : Addr) (cs : List (Str × Nat)) (r : Nat) (ls : List (List Str)) : Prop :=
  ∃ dx t qs, H p = some (.ins C dx (lflds sd r t nd)) ∧ H sd = some (.dK (cellKv cs)) ∧ H nd = some (.dK (mergeK [] (numPr ls))) ∧ LinesAt H t qs ∧ qs.map Prod.snd = ls
theorem LayAt.same {C : Addr} {H H' : Hp} {p sd nd : Addr} {cs : List (Str × Nat)} {r : Nat} {ls : List (List Str)} (h : LayAt C H p sd nd cs r ls) (s : Same H H') : LayAt C H' p sd nd cs r ls := by
  obtain ⟨dx, t, qs, h1, h2, h3, h4, h5⟩ := h
  exact ⟨dx, t, qs, s _ _ h1, s _ _ h2, s _ _ h3, h4.same s, h5⟩
def linesOf (ps : List (Addr × List Str)) : List (List Str) := sortL (ps.map fun p => srt p.2)
theorem srtCs_take (cs : List (Str × Nat)) (i : Nat) : (srtCs cs).take i = ((srt (cs.map Prod.fst)).take i).map fun z => (z, sizeOfD cs z) := by
  unfold srtCs
  rw [List.map_take]
theorem srtCs_len (cs : List (Str × Nat)) : (srtCs cs).length = cs.length := by
  unfold srtCs
  rw [List.length_map, (srt_perm _).length_eq, List.length_map]
section
variable {P : Program} {w : World} {K : PySem.W.Frag} {mg : Str → Option Value} {base : Heap}
def sp_Layout_init (C : Addr) : Sp := fun vs H Q _ => ∃ (p dx d l : Addr) (cs : List (Str × Nat)) (r : Nat) (ps : List (Addr × List Str)), vs = [.ref p, .ref d, .int (r : Int), .ref l] ∧ H p = some (.ins C dx []) ∧ H d = some (.dK (cellKv cs)) ∧ GoodCs cs ∧ 1 ≤ r ∧ r ≤ 32 ∧ InLines H l cs r ps ∧
  ∀ H' sd nd, But p H H' → H sd = none → H nd = none → sd ≠ nd → LayAt C H' p sd nd (srtCs cs) r (linesOf ps) → Q .non H'
theorem ok_Layout_init {f C : Addr} {fd : FuncData} (F : Fun K "__init__" "Layout.__init__" s_Layout_init f fd) (T : Txt0 K mg) (TL : TxtL K mg C) (GC : OkF P w K mg base CX0 "_check_cells" p_check_cells 3 sp_check_cells)
    (GR : OkF P w K mg base CX0 "_check_room" p_check_room 3 sp_check_room) (GL : OkF P w K mg base CX0 "_are_lines" p_are_lines 3 sp_are_lines) : FnOk P w K mg base CX0 4 f fd p_Layout_init (sp_Layout_init C) := by
  refine F.ok sc_Layout_init (fun vs H Q E h => ?_) (fun cdv A outer s H vs Q E hr h => ?_)
  · obtain ⟨p, dx, d, l, cs, r, ps, rfl, _⟩ := h
    rfl
  · obtain ⟨p, dx, d, l, cs, r, ps, rfl, hp, hd, g, r1, r2, il, k⟩ := h
    refine ⟨_, pss_cons (ps_expr (pe_fn GC hr rfl pass0 (pa_cons (pv 1) pa_nil))) (pss_cons (ps_expr (pe_fn GR hr rfl pass0 (pa_cons (pv 2) pa_nil)))
      (pss_cons (ps_if (pt_not (pt_val (pe_fn GL hr rfl pass0 (pa_cons (pv 1) (pa_cons (pv 2) (pa_cons (pv 3) pa_nil)))))) (pss_one ps_never) pss_nil)
      (pss_cons (ps_fld (pv 0) (pe_dc (own := [("name", 4)]) (g := gName 4) (tt := tYes) rfl sc_Layout_init.nd (pi_list (pe_callB (call_sortedD rfl) (by rfl) T.sorted (by decide +kernel) (pa_cons (pv 1) pa_nil))) (blkOk_by (N := n_Layout_init) (sc := defScope s_Layout_init) (by decide +kernel))
          (fun _ _ _ _ _ => pg_name (i := 4) sc_Layout_init.nd rfl (Or.inl rfl)) (fun _ _ _ _ _ => pts_nil) (fun _ _ _ _ _ => pv 4) (fun _ _ _ _ _ => pe_dget (hu_of hr) (pv 1) (pv 4) (fun _ _ => rfl))) rfl)
      (pss_cons (ps_fld (pv 0) (pv 2) rfl)
      (pss_cons (ps_fld (pv 0) (pe_callTy call_tuple_of (by rfl) T.tuple (by decide +kernel) (pa_cons (pe_callB (cr_sortedD hr) (by rfl) T.sorted (by decide +kernel) (pa_cons
          (pe_lc (own := [("line", 5)]) (g := gName 5) (tt := tYes) rfl sc_Layout_init.nd (pi_list (pv 3)) (blkOk_by (N := n_Layout_init) (sc := defScope s_Layout_init) (by decide +kernel))
            (fun _ _ _ _ _ => pg_name (i := 5) sc_Layout_init.nd rfl (Or.inl rfl)) (fun _ _ _ _ _ => pts_nil)
            (fun _ _ _ _ _ => pe_callTy (cr_tup (K := K) rfl) (by rfl) T.tuple (by decide +kernel) (pa_cons (pe_callB (r := rSortedS K) cr_sortedS (by rfl) T.sorted (by decide +kernel) (pa_cons (pv 5) pa_nil)) pa_nil))) pa_nil)) pa_nil)) rfl)
      (pss_one (ps_fld (pv 0) (pe_dc2 (own := [("number", 6), ("line", 5), ("name", 4)]) (vs1 := [4]) (wi1 := iTup K (tVar 5)) (g := gTup K 2 (gCons (gName 6) (gCons (gName 5) gNil))) (g1 := gName 4) rfl sc_Layout_init.nd
          (pi_enumT (by rfl) T.enumerate (pa_cons (pe_fld (pv 0) rfl) pa_nil)) (blkOk_by (N := n_Layout_init) (sc := defScope s_Layout_init) (by decide +kernel)) (by decide)
          (fun _ _ _ _ _ => pg_tup (by rfl) (pgs_cons (pg_name (i := 6) sc_Layout_init.nd rfl (Or.inl rfl)) (pgs_cons (pg_name (i := 5) sc_Layout_init.nd rfl (Or.inl rfl)) pgs_nil)))
          (fun _ _ _ _ _ => pi_tup (pv 5)) (fun _ _ _ _ _ => pg_name (i := 4) sc_Layout_init.nd rfl (Or.inl rfl)) (fun _ _ _ _ _ => pv 4) (fun _ _ _ _ _ => pv 6)) rfl))))))), ?_⟩
    have few := g.few
    refine ⟨_, rfl, d, cs, rfl, hd, g, fun H1 s1 => ⟨_, rfl, r, rfl, r1, r2, ?_⟩⟩
    refine ⟨_, rfl, _, rfl, _, rfl, d, l, cs, r, ps, rfl, s1 _ _ hd, g, il.same s1, fun H2 s2 => ⟨_, rfl, iteF ?_⟩⟩
    have s12 := s1.trans s2
    refine ⟨_, rfl, d, cellKv cs, cs.map Prod.fst, rfl, .inl (s12 _ _ hd), cell_keys cs, by rw [List.length_map]; omega, fun zs q1 hz1 hz2 hq1 => ⟨q1, rfl, ⟨_, SqL.of upd_same⟩, fun sd hsd => ?_⟩⟩
    obtain rfl : zs = srt (cs.map Prod.fst) := srt_of hz1 hz2
    have s3 : Same H (upd H2 q1 (.lst ((srt (cs.map Prod.fst)).map V.str))) := s12.trans (same_new hq1)
    have e3 : (upd H2 q1 (.lst ((srt (cs.map Prod.fst)).map V.str))) q1 = some (.lst ((srt (cs.map Prod.fst)).map V.str)) := upd_same
    generalize hH3 : upd H2 q1 (.lst ((srt (cs.map Prod.fst)).map V.str)) = H3 at s3 e3 hsd ⊢
    have hzl : (srt (cs.map Prod.fst)).length = cs.length := by rw [(srt_perm _).length_eq, List.length_map]
    have znd : (srt (cs.map Prod.fst)).Nodup := (srt_perm _).nodup_iff.mpr g.nd
    have wz : Walk (Itl K q1) (srt (cs.map Prod.fst)).length (fun H => SqL K H q1 ((srt (cs.map Prod.fst)).map V.str)) (YAt ((srt (cs.map Prod.fst)).map V.str)) := (walk_list (K := K) (a := q1) (xs := (srt (cs.map Prod.fst)).map V.str) |> fun z => by rw [List.length_map] at z; exact z)
    refine dc_it wz (fun i H' => Same H3 H' ∧ H' sd = some (.dK (cellKv ((srtCs cs).take i)))) ⟨same_new hsd, upd_same⟩ (fun i H' _ q => SqL.of (q.1 _ _ e3)) ?_ ?_
    · rintro i x H4 H5 hi ⟨s4, e4⟩ ⟨rfl, hx⟩
      have hj : (srt (cs.map Prod.fst))[i]? = some (srt (cs.map Prod.fst))[i] := List.getElem?_eq_getElem hi
      generalize (srt (cs.map Prod.fst))[i] = z at hj
      rw [List.getElem?_map, hj] at hx
      obtain rfl : V.str z = x := Option.some.inj hx
      have hz := size_some ((srt_perm _).mem_iff.mp (List.mem_of_getElem? hj))
      have gg := DGet.k (k := Sum.inr z) (s4 _ _ (s3 _ _ hd))
      rw [valV_cells, hz] at gg
      refine ⟨rfl, _, rfl, _, rfl, _, rfl, d, _, rfl, gg, _, Sum.inr z, rfl, e4, ?_, same_upd s4 hsd, ?_⟩
      · show (cellKv _).length < _
        unfold cellKv
        rw [List.length_map, List.length_take, srtCs_len, sizeLine_eq]
        omega
      · rw [upd_same, putK_new]
        · rw [srtCs_take, srtCs_take, List.take_add_one, hj, List.map_append]
          unfold cellKv
          rw [List.map_append]
          rfl
        · refine val_none fun hk => ?_
          rw [cell_keys, srtCs_take, List.map_map] at hk
          obtain ⟨y, hy, hyz⟩ := List.mem_map.mp hk
          obtain ⟨y', hy', rfl⟩ := List.mem_map.mp hy
          have hyz' : y' = z := Sum.inr.inj hyz
          subst hyz'
          obtain ⟨n, hn1, hn2⟩ := List.getElem_of_mem hy'
          rw [List.getElem_take] at hn2
          rw [List.length_take] at hn1
          have : n = i := ((List.getElem?_inj (by omega) znd).mp (by rw [hj, List.getElem?_eq_getElem (by omega), ← hn2]))
          omega
    · rintro H4 ⟨s4, e4⟩
      rw [List.take_of_length_le (by rw [srtCs_len]; omega)] at e4
      have s34 := s3.trans s4
      have hp4 := s34 _ _ hp
      refine ⟨_, rfl, p, C, dx, [], rfl, hp4, TL.cl, TL.nS, (by show 0 < 1000; decide), ?_⟩
      refine ⟨_, rfl, _, rfl, p, C, dx, _, rfl, upd_same, TL.cl, TL.nR, (by show 1 < 1000; decide), ?_⟩
      have b5 : But p H4 (upd (upd H4 p (.ins C dx (putF "_sizes" (.ref sd) []))) p (.ins C dx (putF "room" (.int (r : Int)) (putF "_sizes" (.ref sd) [])))) := ((But.refl p H4).put).put
      have ep5 : (upd (upd H4 p (.ins C dx (putF "_sizes" (.ref sd) []))) p (.ins C dx (putF "room" (.int (r : Int)) (putF "_sizes" (.ref sd) [])))) p = some (.ins C dx (putF "room" (.int (r : Int)) (putF "_sizes" (.ref sd) []))) := upd_same
      generalize (upd (upd H4 p (.ins C dx (putF "_sizes" (.ref sd) []))) p (.ins C dx (putF "room" (.int (r : Int)) (putF "_sizes" (.ref sd) [])))) = H5 at b5 ep5 ⊢
      have bH5 : But p H H5 := (Same.but s34).trans b5
      have il5 : InLines H5 l cs r ps := ⟨bH5 _ _ (ne_of il.at_ hp (by intro z; cases z)) il.at_, fun q hq => ⟨bH5 _ _ (ne_of (il.each q hq).1 hp (by intro z; cases z)) (il.each q hq).1, (il.each q hq).2⟩, il.perm⟩
      have l6 := il.len g
      have lp := flat_len fun p hp => (il.each p hp).2.1
      have each : ∀ p ∈ ps, p.2.length ≤ 6 := fun p hp => Nat.le_trans (flat_part hp) l6
      have wl : ∀ {a : Addr}, Walk (Itl K a) ps.length (fun H => SqL K H a (ps.map fun p => V.ref p.1)) (YAt (ps.map fun p => V.ref p.1)) := fun {a} => (walk_list (K := K) (a := a) (xs := ps.map fun p => V.ref p.1) |> fun z => by rw [List.length_map] at z; exact z)
      refine ⟨_, rfl, l, rfl, ⟨_, SqL.of il5.at_⟩, fun D hD => lc_ad ps wl hD (fun p v H => ∃ t, v = .ref t ∧ H t = some (.tup ((srt p.2).map V.str))) (by omega) (fun H6 s6 => SqL.of (s6 _ _ il5.at_)) ?_ ?_⟩
      · rintro i a x H6 H7 ha s6 ⟨acc, hacc⟩ ⟨rfl, hx⟩ R hR
        rw [List.getElem?_map, ha] at hx
        obtain rfl : V.ref a.1 = x := Option.some.inj hx
        have hm := List.mem_of_getElem? ha
        obtain ⟨h1, h2, h3⟩ := il5.each a hm
        refine ⟨rfl, _, rfl, a.1, a.2, rfl, SqL.of (s6 _ _ h1), by have := each a hm; omega, fun ys q hy1 hy2 hq => ⟨q, _, rfl, .inl ⟨SqL.of upd_same, fun t ht => ?_⟩⟩⟩
        obtain rfl : ys = srt a.2 := srt_of hy1 hy2
        have sq := same_new (o := .lst ((srt a.2).map V.str)) hq
        refine hR (.ref t) _ (sq.trans (same_new ht)) fun H8 b8 => ⟨t, rfl, b8 t _ (ne_of_none (sq _ _ hacc) ht).symm upd_same⟩
      · intro H6 xs s6 hL hlen hpr
        obtain ⟨qs, rfl, eqs, hqs⟩ := qs_of (H := H6) (ps.map fun p => srt p.2) xs (by rw [hlen, List.length_map]) fun i ws v h1 h2 => by
          rw [List.getElem?_map] at h1
          cases e : ps[i]? with
          | none => rw [e] at h1; cases h1
          | some a =>
            rw [e] at h1
            obtain rfl : srt a.2 = ws := Option.some.inj h1
            exact hpr i a v e h2
        have qne : ∀ q ∈ qs, q.2 ≠ [] := fun q hq z => by
          have hm : q.2 ∈ qs.map Prod.snd := List.mem_map_of_mem hq
          rw [eqs] at hm
          obtain ⟨a, ha, ea⟩ := List.mem_map.mp hm
          have := (srt_perm a.2).length_eq
          rw [show srt a.2 = [] from ea.trans z] at this
          exact (il.each a ha).2.1 (List.length_eq_zero_iff.mp this.symm)
        rw [show ∀ σ H Q, tNil σ H Q = Q [] H from fun _ _ _ => rfl]
        refine lines_sorted (K := K) hL hqs (by rw [List.length_map] at hlen; omega) qne fun q2 rs hq2 hrs hin => ⟨q2, _, rfl, .inl ⟨SqL.of upd_same, fun t ht => ?_⟩⟩
        have s7 : Same H5 (upd (upd H6 q2 (.lst (rs.map fun q => V.ref q.1))) t (.tup (rs.map fun q => V.ref q.1))) := s6.trans ((same_new hq2).trans (same_new ht))
        have lt : LinesAt (upd (upd H6 q2 (.lst (rs.map fun q => V.ref q.1))) t (.tup (rs.map fun q => V.ref q.1))) t rs := ⟨upd_same, fun q hq => (same_new hq2).trans (same_new ht) _ _ (hqs q (hin q hq))⟩
        generalize (upd (upd H6 q2 (.lst (rs.map fun q => V.ref q.1))) t (.tup (rs.map fun q => V.ref q.1))) = H7 at s7 lt ⊢
        have hp7 := s7 _ _ ep5
        refine ⟨_, rfl, p, C, dx, _, rfl, hp7, TL.cl, TL.nL, (by show 2 < 1000; decide), ?_⟩
        have b8 : But p H7 (upd H7 p (.ins C dx (putF "lines" (.ref t) (putF "room" (.int (r : Int)) (putF "_sizes" (.ref sd) []))))) := (But.refl p H7).put
        have ep8 : (upd H7 p (.ins C dx (putF "lines" (.ref t) (putF "room" (.int (r : Int)) (putF "_sizes" (.ref sd) []))))) p = some (.ins C dx (putF "lines" (.ref t) (putF "room" (.int (r : Int)) (putF "_sizes" (.ref sd) [])))) := upd_same
        have tp : t ≠ p := ne_of lt.1 hp7 (by intro z; cases z)
        have lt8 : LinesAt (upd H7 p (.ins C dx (putF "lines" (.ref t) (putF "room" (.int (r : Int)) (putF "_sizes" (.ref sd) []))))) t rs := ⟨b8 _ _ tp lt.1, fun q hq => b8 _ _ (ne_of (lt.2 q hq) hp7 (by intro z; cases z)) (lt.2 q hq)⟩
        generalize (upd H7 p (.ins C dx (putF "lines" (.ref t) (putF "room" (.int (r : Int)) (putF "_sizes" (.ref sd) []))))) = H8 at b8 ep8 lt8 ⊢
        have bH8 : But p H H8 := (bH5.then s7).trans b8
        have b48 : But p H4 H8 := (b5.then s7).trans b8
        have sdp : sd ≠ p := ne_of e4 hp4 (by intro z; cases z)
        have esd8 := b48 _ _ sdp e4
        have els : rs.map Prod.snd = linesOf ps := by rw [hrs, eqs]; rfl
        have hll : (rs.map Prod.snd).flatten.length ≤ 6 := by
          have e1 : (rs.map Prod.snd).Perm (ps.map fun p => srt p.2) := by rw [els]; exact sortL_perm _
          have e2 := e1.flatten.length_eq
          have e3 := flat_srt ps
          omega
        refine ⟨_, rfl, p, C, dx, _, _, rfl, ep8, TL.cl, TL.nL, by rw [lookup_putF, if_pos rfl], t, _, rfl, SqT.of lt8.1, fun nd hnd => ?_⟩
        have wt : Walk (IteT K t) rs.length (fun H => SqT K H t (rs.map fun q => V.ref q.1)) (YPair (fun i => some (.int (i : Nat))) (fun i => (rs.map fun q => V.ref q.1)[i]?)) := (walk_enumT (K := K) (a := t) (xs := rs.map fun q => V.ref q.1) |> fun z => by rw [List.length_map] at z; exact z)
        refine ⟨fun i m H' => m = rs.length - i ∧ i ≤ rs.length ∧ Same H8 H' ∧ H' nd = some (.dK (mergeK [] (numPr ((rs.map Prod.snd).take i)))), ⟨rs.length, by simp, Nat.zero_le _, same_new hnd, upd_same⟩, ?_⟩
        rintro i m H9 ⟨rfl, hi, s9, e9⟩
        have sq9 : SqT K H9 t (rs.map fun q => V.ref q.1) := SqT.of (s9 _ _ lt8.1)
        by_cases hlt : i < rs.length
        · have ha : rs[i]? = some rs[i] := List.getElem?_eq_getElem hlt
          generalize rs[i] = a at ha
          have hm := List.mem_of_getElem? ha
          refine .inr ⟨wt.goes i H9 hlt sq9, fun H' => Same H8 H' ∧ H' nd = some (.dK (mergeK [] (numPr ((rs.map Prod.snd).take (i + 1))))), fun H' q => ⟨rs.length - (i + 1), by omega, rfl, hlt, q⟩, fun x H10 y => ?_⟩
          obtain ⟨T1, x1, x2, rfl, hT1, rfl, hx1, hx2⟩ := wt.yields i H9 x H10 hlt sq9 y
          obtain rfl : V.int (i : Nat) = x1 := Option.some.inj hx1
          replace hx2 : (rs.map fun q => V.ref q.1)[i]? = some x2 := hx2
          rw [List.getElem?_map, ha] at hx2
          obtain rfl : V.ref a.1 = x2 := Option.some.inj hx2
          have sT := s9.trans (same_new (o := .tup [.int (i : Nat), .ref a.1]) hT1)
          have eT : (upd H9 T1 (.tup [.int (i : Nat), .ref a.1])) nd = some (.dK (mergeK [] (numPr ((rs.map Prod.snd).take i)))) := same_new hT1 _ _ e9
          have tT : (upd H9 T1 (.tup [.int (i : Nat), .ref a.1])) T1 = some (.tup [.int (i : Nat), .ref a.1]) := upd_same
          generalize (upd H9 T1 (.tup [.int (i : Nat), .ref a.1])) = H10 at sT eT tT ⊢
          have al : (rs.map Prod.snd)[i]? = some a.2 := by rw [List.getElem?_map, ha]; rfl
          have wa : Walk (Itt K a.1) a.2.length (fun H => SqT K H a.1 (a.2.map V.str)) (YAt (a.2.map V.str)) := (walk_tup (K := K) (a := a.1) (xs := a.2.map V.str) |> fun z => by rw [List.length_map] at z; exact z)
          have few2 : (numPr ((rs.map Prod.snd).take i)).length + a.2.length ≤ 6 := by
            have e1 := numPr_len (ls := (rs.map Prod.snd).take (i + 1))
            rw [numPr_step al, List.length_append, List.length_map] at e1
            have e2 : ((rs.map Prod.snd).take (i + 1)).flatten.length ≤ (rs.map Prod.snd).flatten.length := by
              conv => rhs; rw [← List.take_append_drop (i + 1) (rs.map Prod.snd), List.flatten_append, List.length_append]
              omega
            omega
          refine ⟨T1, _, rfl, SqT.of tT, rfl, _, _, rfl, _, _, rfl, rfl, rfl, _, rfl, a.1, rfl, ⟨_, SqT.of (sT _ _ (lt8.2 a hm))⟩, fun j n H' => n = a.2.length - j ∧ j ≤ a.2.length ∧ Same H8 H' ∧ H' nd = some (.dK (mergeK [] (numPr ((rs.map Prod.snd).take i) ++ (a.2.take j).map fun z => (Sum.inr z, V.int (i : Int))))), ⟨a.2.length, by simp, Nat.zero_le _, sT, by rw [eT]; simp⟩, ?_⟩
          rintro j n H11 ⟨rfl, hjl, s11, e11⟩
          have sq11 : SqT K H11 a.1 (a.2.map V.str) := SqT.of (s11 _ _ (lt8.2 a hm))
          by_cases hl2 : j < a.2.length
          · have hz : a.2[j]? = some a.2[j] := List.getElem?_eq_getElem hl2
            generalize a.2[j] = z at hz
            refine .inr ⟨wa.goes j H11 hl2 sq11, fun H' => Same H8 H' ∧ H' nd = some (.dK (mergeK [] (numPr ((rs.map Prod.snd).take i) ++ (a.2.take (j + 1)).map fun z => (Sum.inr z, V.int (i : Int))))), fun H' q => ⟨a.2.length - (j + 1), by omega, rfl, hl2, q⟩, fun x H12 y => ?_⟩
            obtain ⟨rfl, hx⟩ := wa.yields j H11 x H12 hl2 sq11 y
            rw [List.getElem?_map, hz] at hx
            obtain rfl : V.str z = x := Option.some.inj hx
            refine ⟨rfl, _, rfl, _, rfl, _, Sum.inr z, rfl, e11, ?_, same_upd s11 hnd, ?_⟩
            · have e1 := length_mergeK (numPr ((rs.map Prod.snd).take i) ++ (a.2.take j).map fun z => ((Sum.inr z, V.int (i : Int)) : Key × V)) []
              rw [List.length_append, List.length_map, List.length_take] at e1
              rw [sizeLine_eq]
              simp only [List.length_nil] at e1
              omega
            · rw [upd_same, List.take_add_one, hz, Option.toList_some, List.map_append, ← List.append_assoc, List.map_cons, List.map_nil, merge_snoc]
          · have e : j = a.2.length := by omega
            subst e
            rw [List.take_length, ← numPr_step al] at e11
            exact .inl ⟨wa.stops H11 sq11, s11, e11⟩
        · have e : i = rs.length := by omega
          subst e
          rw [List.take_of_length_le (by rw [List.length_map]; exact Nat.le_refl _), els] at e9
          have ep9 := s9 _ _ ep8
          refine .inl ⟨wt.stops H9 sq9, _, rfl, p, C, dx, _, rfl, ep9, TL.cl, TL.nN, (by show 3 < 1000; decide), ?_⟩
          have b9 : But p H9 (upd H9 p (.ins C dx (putF "_numbers" (.ref nd) (putF "lines" (.ref t) (putF "room" (.int (r : Int)) (putF "_sizes" (.ref sd) [])))))) := (But.refl p H9).put
          have hnp : nd ≠ p := ne_of e9 ep9 (by intro z; cases z)
          refine k _ sd nd ((bH8.then s9).trans b9) (none_back s3 hsd) (none_but bH8 ep8 hnd) (ne_of_none esd8 hnd) ⟨dx, t, rs, by rw [upd_same, lflds_put], b9 _ _ sdp (s9 _ _ esd8), b9 _ _ hnp e9, ⟨b9 _ _ tp (s9 _ _ lt8.1), fun q hq => b9 _ _ (ne_of (s9 _ _ (lt8.2 q hq)) ep9 (by intro z; cases z)) (s9 _ _ (lt8.2 q hq))⟩, els⟩
end
end Vf

set_option maxRecDepth 100000
set_option maxHeartbeats 4000000
namespace Vf
open PySem PySem.Spec PyProof.Rows L2
/-- nothing is being printed -/
abbrev Calm (A : Around) : Prop := A.guards = some []
structure FnG (P : Program) (w : World) (K : PySem.W.Frag) (mg : Str → Option Value) (base : Heap) (CX : CXT) (k : Nat) (f : Addr) (fd : FuncData) (ps : List Str) (sp : Sp) : Prop where
  len : ∀ vs H Q E, sp vs H Q E → vs.length = ps.length
  run : ∀ (A : Around) (outer : List Env) (s : Shared) (H : Hp) (args : Args) (us : List Value) (vs : List V) (Q : VK) (E : XK), Calm A → Room k A →
    Env0 P w K mg base A outer s H → BindsTo s fd args (ps.zip us) → Vals vs us → sp vs H Q E → codeAny (model P w) A (.call (.ref f) args) (CR CX outer P w H s Q E) s
section
variable {P : Program} {w : World} {K : PySem.W.Frag} {mg : Str → Option Value} {base : Heap}
theorem FnG.of {CX : CXT} {k : Nat} {f : Addr} {fd : FuncData} {ps : List Str} {sp : Sp} (F : FnOk P w K mg base CX k f fd ps sp) : FnG P w K mg base CX k f fd ps sp :=
  ⟨F.len, fun A outer s H args us vs Q E _ => F.run A outer s H args us vs Q E⟩
/-- a def by its body; both ways are told of what goes on around it -/
theorem Fun.okG {x qual : Str} {st : Stmt} {f : Addr} {fd : FuncData} {N ps : List Str} {k : Nat} {sp : Sp} (F : Fun K x qual st f fd) (S : FnScope N ps (defScope st)) (hlen : ∀ vs H Q E, sp vs H Q E → vs.length = ps.length)
    (hbody : ∀ (cdv : Value) (A : Around) (outer : List Env) (s : Shared) (H : Hp) (vs : List V) (Q : VK) (E : XK), Calm (A.deeper (envOfC qual (defScope st) s.heap.objs.size f cdv)) →
      Room k (A.deeper (envOfC qual (defScope st) s.heap.objs.size f cdv)) → sp vs H Q E →
      ∃ t, PSs (cxOf CX0 P w K mg base N qual (defScope st) f cdv A outer s H E).nox (defBody st) t ∧ t { nx := fun _ H' => Q .non H', rt := Q } (start N vs) H) :
    FnG P w K mg base CX0 (k + 1) f fd ps sp := by
  obtain ⟨oc, od, kV, doc, pm, an, cdv, ct, osl, rfl, hlook, hcode⟩ := F.ex
  refine ⟨hlen, fun A outer s H args us vs Q E hcalm hroom env bnd rel q => ?_⟩
  have below := fun b o (e : base.get? b = some o) => (env.bs b o e).1
  have inK := env.mod.kin.keeps below
  have kinds : ∀ y ∈ ps.zip us, (defScope st).names.lookup y.1 = some .local ∨ ((defScope st).names.lookup y.1 = some .cell ∧ ((cellsFrom (s.heap.objs.size + 1) (defScope st).names []).lookup y.1).isSome = true) := by
    rintro ⟨n, v⟩ hy
    exact (S.par n (List.of_mem_zip hy).1).imp id fun c => ⟨c, PySem.W.cellsFrom_some _ _ _ (.inl c)⟩
  refine codeAny_call_function hroom.depth (inK _ _ hlook) rfl S.co S.gen rfl (PySem.W.codeRec_of inK hcode) (bnd _ _ _ _ (wpAny_newFunctionEnv_cells S.kind kinds fun env' he s1 made => ?_))
  subst he
  refine ⟨(env.mod.nolimit.keeps below).keeps made.toInCall.keep, codeAny_func ?_⟩
  obtain ⟨t, hps, ht⟩ := hbody cdv A outer s H vs Q E hcalm (hroom.deeper _) q
  have inv := inv_start (CX := CX0) (E := E) S hroom.hd env (hlen _ _ _ _ q) rel made
  refine wpAny_mono (hps.nox.run [] s1 (start N vs) H _ inv ht) (fun fl s' out => ?_) fun _ _ out => out
  cases fl with
  | next =>
    obtain ⟨σ', H', J, q'⟩ := out
    exact ⟨V.non, H', J.os, J.bare, J.base, J.hok, rfl, q'⟩
  | ret u =>
    obtain ⟨v, σ', H', J, rv, q'⟩ := out
    exact ⟨v, H', J.os, J.bare, J.base, J.hok, rv, q'⟩
  | brk =>
    obtain ⟨_, _, _, no⟩ := out
    exact False.elim no
  | cont =>
    obtain ⟨_, _, _, no⟩ := out
    exact False.elim no
end
def OkG (P : Program) (w : World) (K : PySem.W.Frag) (mg : Str → Option Value) (base : Heap) (CX : CXT) (x : Str) (ps : List Str) (k : Nat) (sp : Sp) : Prop :=
  ∃ (f : Addr) (fd : FuncData), mg x = some (.ref f) ∧ PySem.W.keepIn K (.ref f) = true ∧ Binds K fd ps [] ∧ FnG P w K mg base CX k f fd ps sp
section
variable {X : Cx} {CX : CXT} {k : Nat} {f : Addr} {fd : FuncData} {ps : List Str} {sp : Sp} {ds : List Value} {dvs : List V} {E : XK} {x : Str} {p pos : Pos} {e : Expr} {es : List Expr} {t : TA}
theorem run_fnG {pins : List (Addr × Obj)} {σ : L2.St} {H : Hp} {s : Shared} {Q : VK} {us : List Value} {vs : List V} (F : FnG X.prog X.w X.K X.mg X.base CX k f fd ps sp) (hgd : Calm X.A) (hr : Room k X.A) (hb : Binds X.K fd ps ds) (hd : Vals dvs ds) (hx : Passes CX X E)
    (I : Inv X pins σ H s) (r : Vals vs us) (h : sp (vs ++ dvs) H Q E) : wpAny (model X.prog X.w) X.A (call (.ref f) us) (EP X pins σ Q) X.xe s := by
  have all := r.append hd
  have many : (us ++ ds).length = ps.length := all.length.symm.trans (F.len _ _ _ _ h)
  refine wpAny_call (codeAny_mono (F.run X.A X.stack s H ⟨us, []⟩ (us ++ ds) (vs ++ dvs) Q E hgd hr I.env0 (hb s us I.kIn many) all h) fun out s' q => ?_)
  match out, q with
  | .error e, q => exact hx pins σ H s e s' I q
  | .ok (.ret u), q => exact I.after q
  | .ok .next, q => exact (q : False).elim
  | .ok .brk, q => exact (q : False).elim
  | .ok .cont, q => exact (q : False).elim
theorem pe_fnG (G : OkG X.prog X.w X.K X.mg X.base CX x ps k sp) (hgd : Calm X.A) (hr : Room k X.A) (hg : Gl X x) (hx : Passes CX X E)
    (ha : PA X (e :: es) t) (hdb : (x == ("__debug__" : Str)) = false := by decide) (hst : starEach (e :: es) X.env = (false, eval e X.env) :: starEach es X.env := by rfl) (hpl : (backTo pos (starEach es X.env)).any (·.1) = false := by rfl) :
    PE X (.Call (.Name x p) (e :: es) [] pos) (tCall sp [] E t) := by
  obtain ⟨f, fd, hm, hk, hb, F⟩ := G
  refine ⟨fun pins s σ H Q I h => wpAny_Call_Name_kw (ld_glob I hg hm ?_ hdb)⟩
  refine PySem.W.callWith_K (h₀ := X.base) I.ok.mod.kin hk (thn (ha.run pos pins s σ H _ I h) ?_) hst hpl
  rintro us s1 ⟨vs, H1, I1, rel, q⟩
  exact ⟨I1.kIn, run_fnG F hgd hr hb .nil hx I1 rel q⟩
end
end Vf

set_option maxRecDepth 100000
set_option maxHeartbeats 4000000
namespace Vf
open PySem PySem.Spec PyProof.Rows L2
section
variable {X : Cx} {pins : List (Addr × Obj)} {σ : L2.St} {H : Hp} {s : Shared}
theorem ty_looks {x : V} {u t : Value} (M : Model) (I : Inv X pins σ H s) (rx : RelV x u) (ty : TyX X.K H x t) : PySem.W.Looks M s.heap (typeOf u) t := by
  obtain ⟨Pz, Z, p, _⟩ := kit_of I rx ty
  exact Z.ty M s.heap I.kIn p
/-- a callee that runs somewhere within what goes on -/
theorem run_at {CX : CXT} {n : Nat} {f : Addr} {fd : FuncData} {ps : List Str} {sp : Sp} {E : XK} {Q : VK} {A : Around} {vs : List V} {us : List Value} (F : FnOk X.prog X.w X.K X.mg X.base CX n f fd ps sp) (fr : A.frames = X.A.frames) (room : Room n A)
    (hb : Binds X.K fd ps []) (hx : Passes CX X E) (I : Inv X pins σ H s) (r : Vals vs us) (h : sp vs H Q E) : wpAny (model X.prog X.w) A (call (.ref f) us) (EP X pins σ Q) X.xe s := by
  have e0 : Env0 X.prog X.w X.K X.mg X.base A X.stack s H :=
    let e := I.env0
    ⟨fr.trans e.frames, e.mod, e.bs, e.bsz, e.funs, e.frf, e.hok, e.bare⟩
  have many : (us ++ []).length = ps.length := by
    rw [List.append_nil]
    exact r.length.symm.trans (F.len _ _ _ _ h)
  have bnd := hb s us I.kIn many
  rw [List.append_nil] at bnd
  refine wpAny_call (codeAny_mono (F.run A X.stack s H ⟨us, []⟩ us vs Q E room e0 bnd r h) fun out s' q => ?_)
  match out, q with
  | .error e, q => exact hx pins σ H s e s' I q
  | .ok (.ret u), q => exact I.after q
  | .ok .next, q => exact (q : False).elim
  | .ok .brk, q => exact (q : False).elim
  | .ok .cont, q => exact (q : False).elim
end
section
variable {prog : Program} {w : World} {A : Around} {E : Value → Shared → Prop} {s : Shared} {K : PySem.W.Frag} {x C f : Addr} {ox : Obj} {od : Option Obj}
theorem ifBound_ne {args : List Value} {Q : Option Value → Shared → Prop} (inK : K.In s.heap) (J : PySem.W.InstAt s.heap x ox C od) (ne : PySem.W.findIn K (.ref C) "__ne__" = some (some (.builtin "object.__ne__")))
    (h : wpAny (model prog w) A (call (.builtin "object.__ne__") (.ref x :: args)) (fun v => Q (some v)) E s) : wpAny (model prog w) A (callSpecialIfBound? (.ref x) "__ne__" args) Q E s := by
  simp only [callSpecialIfBound?, bindSpecialIfBound?]
  have told : wpAny (model prog w) A (call (.builtin "object.__ne__") ([.ref x] ++ args) >>= fun v => pure (some v)) Q E s := wpAny_bind (wpAny_mono h (fun _ _ q => wpAny_pure q) fun _ _ q => q)
  refine wpAny_holding (wpAny_bind (wpAny_bind (wpAny_bind (J.type.here ((PySem.W.looks_findIn inK ne).here (wpAny_bind (wpAny_askSetting (wpAny_ite ?_))))))))
  split
  · exact wpAny_bind (wpAny_of_eq (F.cmp_object.ne.bind _) (wpAny_pure (by exact told)))
  · exact wpAny_tryCatch (wpAny_bind (wpAny_of_eq (F.cmp_object.ne.bind _) (wpAny_pure (by exact told))))
theorem entry_ne {b : Value} {Q : Fin → Shared → Prop} (room : A.units < cLine) (inK : K.In s.heap) (J : PySem.W.InstAt s.heap x ox C od) (eq : PySem.W.findIn K (.ref C) "__eq__" = some (some (.ref f))) (isf : PySem.W.isFn K (.ref f) = true)
    (h : wpAny (model prog w) A (call (.ref f) [.ref x, b]) (fun v s' => ∃ r, v = .bool r ∧ Q (.done (.ret (.bool (!r)))) s') E s) : wpAny (model prog w) A (Builtin.«object.__ne__» ⟨[.ref x, b], []⟩) Q E s := by
  unfold Builtin.«object.__ne__»
  repeat (first
    | with_reducible refine wpAny_cRoomFor room ?_
    | (refine wpAny_bind (m := callSpecialIfBound? (.ref x) (Str.ofString "__eq__") [b])
        (PySem.W.ifBound_K inK J eq isf (wpAny_mono h (fun v s' told => by
          obtain ⟨r, rfl, q⟩ := told
          repeat (first | exact q | exact wpAny_pure q | exact wpAny_truthy_bool q | (refine wpAny_bind (m := truthy (.bool _)) (wpAny_truthy_bool ?_)) | wp_step)) fun _ _ q => q)))
    | wp_step)
theorem ne_own {b tb : Value} {Q : Value → Shared → Prop} (room : A.units + 1 < cLine) (inK : K.In s.heap) (J : PySem.W.InstAt s.heap x ox C od) (obj : PySem.W.mroIn K C (.type "object") = some true)
    (ne : PySem.W.findIn K (.ref C) "__ne__" = some (some (.builtin "object.__ne__"))) (eq : PySem.W.findIn K (.ref C) "__eq__" = some (some (.ref f))) (isf : PySem.W.isFn K (.ref f) = true)
    (hb : PySem.W.Looks (model prog w) s.heap (typeOf b) tb) (nf : PySem.W.notFirst K C tb = true)
    (h : wpAny (model prog w) A.in1 (call (.ref f) [.ref x, b]) (fun v s' => ∃ r, v = .bool r ∧ Q (.bool (!r)) s') E s) : wpAny (model prog w) A (richCompare .NotEq (.ref x) b) Q E s := by
  have asked : wpAny (model prog w) A (tryCompare (.ref x) "__ne__" b) (fun o s' => ∃ r : Bool, o = some (.bool r) ∧ Q (.bool r) s') E s := by
    unfold tryCompare
    refine wpAny_bind (ifBound_ne inK J ne (wpAny_call (codeAny_call_builtin F.cmp_object.ne.plain F.cmpEntry_ne (PySem.W.check_slot F.cmpKind_ne F.cmpSplit_ne (J.type.andThen (PySem.W.looks_mroIn inK obj)) (F.cmpArgs_ne _ _) ?_))))
    refine entry_ne (A := A.in1) room inK J eq isf (wpAny_mono h (fun v s' told => ?_) fun _ _ q => q)
    obtain ⟨r, rfl, q⟩ := told
    exact ⟨r, rfl, wpAny_pure ⟨!r, rfl, q⟩⟩
  unfold richCompare
  simp only [oneThing_ref]
  refine wpAny_holding (wpAny_bind (wpAny_cRoomFor (Nat.lt_of_succ_lt room) ?_))
  rw [cmpInfo_NotEq]
  refine wpAny_bind (J.type.here (wpAny_bind (hb.here ?_)))
  have go : wpAny (model prog w) A (tryCompare (.ref x) "__ne__" b) (fun o s' => ∃ r : Bool, o = some (.bool r) ∧ Q (.bool r) s') E s := asked
  split
  · rename_i apart
    have later : PySem.W.subIn K tb (.ref C) = some false := by
      rcases Bool.or_eq_true_iff.mp nf with e | e
      · rw [beq_iff_eq.mp e] at apart
        simp at apart
      · exact beq_iff_eq.mp e
    refine wpAny_bind ((PySem.W.looks_subIn inK later).here ?_)
    simp only [Bool.false_eq_true, if_false]
    refine wpAny_bind (wpAny_mono go (fun o s' z => ?_) fun _ _ q => q)
    obtain ⟨r, rfl, q⟩ := z
    exact wpAny_pure q
  · refine wpAny_bind (wpAny_pure ?_)
    simp only [Bool.false_eq_true, if_false]
    refine wpAny_bind (wpAny_mono go (fun o s' z => ?_) fun _ _ q => q)
    obtain ⟨r, rfl, q⟩ := z
    exact wpAny_pure q
end
/-- what the text says of a class with an own __eq__ at f -/
structure OwnC (K : PySem.W.Frag) (C f : Addr) (fd : FuncData) (ps : List Str) : Prop where
  eq : PySem.W.findIn K (.ref C) "__eq__" = some (some (.ref f))
  isf : PySem.W.isFn K (.ref f) = true
  ne : PySem.W.findIn K (.ref C) "__ne__" = some (some (.builtin "object.__ne__"))
  obj : PySem.W.mroIn K C (.type "object") = some true
  bnd : Binds K fd ps []
/-- o == y, o != y: neg -/
def rOwn (K : PySem.W.Frag) (C : Addr) (sp : Sp) (E : XK) (neg : Bool) : R2 := fun x y H Q => ∃ a dx fs t, x = .ref a ∧ H a = some (.ins C dx fs) ∧ TyX K H y t ∧ PySem.W.notFirst K C t = true ∧
  sp [.ref a, y] H (fun v H' => ∃ b, v = .bl b ∧ Q (.bl (b != neg)) H') E
section
variable {X : Cx} {CX : CXT} {n : Nat} {C f : Addr} {fd : FuncData} {ps : List Str} {sp : Sp} {E : XK}
theorem op_ownEq (F : FnOk X.prog X.w X.K X.mg X.base CX n f fd ps sp) (O : OwnC X.K C f fd ps) (hr : Room n X.A) (hx : Passes CX X E) : OpR X (compareOp .Eq) (rOwn X.K C sp E false) := by
  intro pins s σ H x y v u Q I rx ry h
  obtain ⟨a, dx, fs, t, rfl, ha, ty, nf, h⟩ := h
  obtain rfl : v = Value.ref a := rx
  obtain ⟨mA, J, _⟩ := ins_get I.hok ha
  obtain ⟨od, J, _⟩ := J.look
  obtain ⟨m, fr⟩ := I.fr
  have un := hr.un
  refine PySem.W.cmp_K (op := .Eq) (tb := t) (by omega) fr I.ok.mod.kin J (ty_looks _ I ry ty) nf O.eq O.isf ?_
  refine wpAny_mono (run_at (A := X.A) (vs := [.ref a, y]) (us := [.ref a, u]) F rfl hr O.bnd hx I (.cons rfl (.cons ry .nil)) h) (fun w' s' told => ?_) fun _ _ q => q
  obtain ⟨z, H', I', rz, b, rfl, q⟩ := told
  obtain rfl : w' = Value.bool b := rz
  refine ⟨.bl b, H', I', rfl, ?_⟩
  simpa using q
theorem op_ownNe (F : FnOk X.prog X.w X.K X.mg X.base CX n f fd ps sp) (O : OwnC X.K C f fd ps) (hr : Room (n + 1) X.A) (hx : Passes CX X E) : OpR X (compareOp .NotEq) (rOwn X.K C sp E true) := by
  intro pins s σ H x y v u Q I rx ry h
  obtain ⟨a, dx, fs, t, rfl, ha, ty, nf, h⟩ := h
  obtain rfl : v = Value.ref a := rx
  obtain ⟨mA, J, _⟩ := ins_get I.hok ha
  obtain ⟨od, J, _⟩ := J.look
  have un := hr.un
  refine ne_own (A := X.A) (by omega) I.kIn J O.obj O.ne O.eq O.isf (ty_looks _ I ry ty) nf ?_
  refine wpAny_mono (run_at (A := X.A.in1) (vs := [.ref a, y]) (us := [.ref a, u]) F rfl hr.in1 O.bnd hx I (.cons rfl (.cons ry .nil)) h) (fun w' s' told => ?_) fun _ _ q => q
  obtain ⟨z, H', I', rz, b, rfl, q⟩ := told
  obtain rfl : w' = Value.bool b := rz
  refine ⟨b, rfl, .bl (!b), H', I', rfl, ?_⟩
  have e : (b != true) = !b := by cases b <;> rfl
  rw [← e]
  exact q
end
end Vf

set_option maxRecDepth 100000
set_option maxHeartbeats 4000000
namespace Vf
open PySem PySem.Spec PyProof.Rows L2
/-- what the text says of a static method that is reached through an object -/
structure SInst (K : PySem.W.Frag) (C : Addr) (m : Str) (p g : Addr) : Prop where
  pg : PySem.W.plainGet K C Str.empty = true
  ic : PySem.W.isClsIn K C = true
  at_ : PySem.W.findIn K (.ref C) m = some (some (.ref p))
  ty : PySem.W.typeIn K (.ref p) = some (.type "staticmethod")
  get : PySem.W.specialIn K (.ref p) "__get__" = some (some (.builtin "staticmethod.__get__"))
  tk : PySem.W.takesIn K (.ref p) = some false
  cp : PySem.W.copiedNames.contains m = false
  rc : ∃ rest, PySem.W.recIn K p "staticmethod" = some (.ref g :: rest)
  kp : PySem.W.keepIn K (.ref g) = true
theorem SInst.get' {K : PySem.W.Frag} {C : Addr} {m : Str} {p g : Addr} (k : SInst K C m p g) : PySem.W.plainGet K C m = true := k.pg
def tSI (C : Addr) (m : Str) (sp : Sp) (E : XK) (ta : TE) (t : TA) : TE := fun σ H Q => ta σ H fun x H1 => ∃ a dx fs, x = .ref a ∧ H1 a = some (.ins C dx fs) ∧ fs.lookup m = none ∧ t σ H1 fun vs H2 => sp vs H2 Q E
section
variable {X : Cx} {CX : CXT} {k : Nat} {C p g : Addr} {fd : FuncData} {ps : List Str} {sp : Sp} {E : XK} {o e : Expr} {es : List Expr} {m : Str} {pos apos : Pos} {ta : TE} {t : TA} {pl : Sem Bool}
theorem pe_sinst (he : PE X o ta) (c : SInst X.K C m p g) (F : FnOk X.prog X.w X.K X.mg X.base CX k g fd ps sp) (hr : Room k X.A) (hb : Binds X.K fd ps []) (hx : Passes CX X E) (ha : PA X (e :: es) t)
    (hst : starEach (e :: es) X.env = (false, eval e X.env) :: starEach es X.env := by rfl) (hpl : (backTo pos (starEach es X.env)).any (·.1) = false := by rfl)
    (ht : eval (.Call (.Attribute o m apos) (e :: es) [] pos) X.env = (do
      let ov ← eval o X.env
      standAt apos.atName
      let (f, first) ← holding [ov] (getMethod ov m pl)
      callWith pos f first (backTo pos (starEach (e :: es) X.env)) (backToKw pos (keywordEach [] X.env))) := by rfl) :
    PE X (.Call (.Attribute o m apos) (e :: es) [] pos) (tSI C m sp E ta t) := by
  refine ⟨fun pins s σ H Q I h => PySem.W.methodCall_KW (pl := pl) (thn (he.run pins s σ H _ I h) ?_) ht⟩
  rintro u s1 ⟨x, H1, I1, rx, a, dx, fs, rfl, ea, own, q⟩
  obtain rfl : u = Value.ref a := rx
  obtain ⟨mA, O, rr, _, _, _⟩ := ins_get I1.hok ea
  have hn : mA m = none := RelO.none_of (by rw [← own]; exact rr m)
  obtain ⟨od, J, look⟩ := O.look
  obtain ⟨rest, rec⟩ := c.rc
  refine PySem.W.method_usual (r := some (.ref p)) I1.kIn J (PySem.W.plainGet_of c.get').1 (PySem.W.plainGet_of c.get').2 c.at_ ?_ ?_
  · simp only [Option.all_some, c.ty, Option.any_some]
    decide +kernel
  refine PySem.W.get_bind I1.kIn J (PySem.W.plainGet_of c.get').1 (ClX.find_cm c.ic c.at_ c.get c.tk c.cp (by rw [look m, hn])) (PySem.W.plainGet_of c.get').2 ?_
  refine wpAny_call (PySem.W.sm_get (s := { s1 with toks := s1.toks + 1 }) I1.kIn rec (PySem.W.handed_on rfl ?_))
  have I2 : Inv X pins σ H1 { s1 with toks := s1.toks + 1 } := I1.tok _
  refine PySem.W.callWith_K (h₀ := X.base) I.ok.mod.kin c.kp (thn (ha.run pos pins _ σ H1 _ I2 q) ?_) hst hpl
  rintro us s2 ⟨vs, H2, I3, rv, q2⟩
  exact ⟨I3.kIn, run_fn (dvs := []) F hr hb .nil hx I3 rv (by rw [List.append_nil]; exact q2)⟩
end
/-- str(o) -/
def rStrOwn (C : Addr) (sp : Sp) (E : XK) : List V → Hp → VK → Prop := fun xs H Q => ∃ a dx fs, xs = [.ref a] ∧ H a = some (.ins C dx fs) ∧ sp [.ref a] H (fun v H' => ∃ z, v = .str z ∧ Q (.str z) H') E
structure OwnS (K : PySem.W.Frag) (C f : Addr) (fd : FuncData) (ps : List Str) : Prop where
  st : PySem.W.findIn K (.ref C) "__str__" = some (some (.ref f))
  isf : PySem.W.isFn K (.ref f) = true
  bnd : Binds K fd ps []
theorem cr_strOwn {X : Cx} {CX : CXT} {n : Nat} {C f : Addr} {fd : FuncData} {ps : List Str} {sp : Sp} {E : XK} (F : FnOk X.prog X.w X.K X.mg X.base CX n f fd ps sp) (O : OwnS X.K C f fd ps) (hr : Room (n + 2) X.A) (hx : Passes CX X E) :
    CallR X (.type "str") (rStrOwn C sp E) := by
  intro pins s σ H xs us Q I r h
  obtain ⟨a, dx, fs, rfl, ha, h⟩ := h
  obtain ⟨u, rfl, r1⟩ := vals1 r
  obtain rfl : u = Value.ref a := r1
  obtain ⟨mA, J, _⟩ := ins_get I.hok ha
  obtain ⟨od, J, _⟩ := J.look
  have room : Room n X.A.in1.in1 := hr.in1.in1
  have un := room.un
  refine PySem.W.kso_call (by omega) I.kIn J O.st O.isf ?_
  refine wpAny_mono (run_at (A := X.A.in1.in1) (vs := [.ref a]) (us := [.ref a]) F rfl room O.bnd hx I (.cons rfl .nil) h) (fun w' s' told => ?_) fun _ _ q => q
  obtain ⟨z, H', I', rz, y, rfl, q⟩ := told
  obtain ⟨tk, rfl⟩ : ∃ tk, w' = Value.str y tk := rz
  exact ⟨.str y, H', I', ⟨tk, rfl⟩, q⟩
end Vf

set_option maxRecDepth 100000
set_option maxHeartbeats 8000000
namespace Vf
open PySem PySem.Spec PyProof.Rows L2
/-- what the text says of the class, for == and isinstance -/
structure TxtE (K : PySem.W.Frag) (C : Addr) : Prop where
  tyC : PySem.W.typeIn K (.ref C) = some (.type "type")
  clC : PySem.W.isClsIn K C = true
  ha : PySem.W.findIn K (.ref C) "__class__" = some (some (.builtin "object.__class__"))
  hn : PySem.W.specialIn K (.builtin "object.__class__") "__get__" = some (some (.builtin "getset_descriptor.__get__"))
  tk : PySem.W.takesIn K (.builtin "object.__class__") = some true
  obj : PySem.W.mroIn K C (.type "object") = some true
theorem kit_self {K : PySem.W.Frag} {C : Addr} : PySem.W.kitOne K (.ref C) (.ref C) = some true := by
  unfold PySem.W.kitOne
  rw [if_pos (by simp)]
theorem nf_self {K : PySem.W.Frag} {C : Addr} : PySem.W.notFirst K C (.ref C) = true := by simp [PySem.W.notFirst]
theorem ty_lay {K : PySem.W.Frag} {mg : Str → Option Value} {C : Addr} {H : Hp} {p sd nd : Addr} {cs : List (Str × Nat)} {r : Nat} {ls : List (List Str)} (T : TxtE K C) (TL : TxtL K mg C) (h : LayAt C H p sd nd cs r ls) : TyX K H (.ref p) (.ref C) := by
  obtain ⟨dx, t, qs, h1, _⟩ := h
  exact .base (.ins h1 TL.cl T.ha T.hn T.tk T.obj)
def linesD (ls : List (List Str)) : PyData := .tuple (ls.map lnD)
theorem plain_lines : ∀ {ls : List (List Str)}, (∀ ws ∈ ls, ∀ z ∈ ws, PyData.strOk z = true) → plainAll (ls.map lnD) = true
  | [], _ => rfl
  | ws :: ls, h => by
    simp only [List.map_cons, plainAll, Bool.and_eq_true]
    exact ⟨by simp only [lnD, plainD, plain_strs (h ws List.mem_cons_self)], plain_lines fun y hy => h y (List.mem_cons_of_mem _ hy)⟩
theorem depth_lines : ∀ ls : List (List Str), PyData.depthAll (ls.map lnD) ≤ 1
  | [] => by simp [PyData.depthAll]
  | ws :: ls => by
    have := depth_lines ls
    simp only [List.map_cons, PyData.depthAll, lnD, PyData.depth, depth_strs]
    omega
theorem dp_lines {K : PySem.W.Frag} {H : Hp} : ∀ {qs : List (Addr × List Str)}, (∀ q ∈ qs, H q.1 = some (.tup (q.2.map V.str))) → DpAll K H (qs.map fun q => V.ref q.1) ((qs.map Prod.snd).map lnD)
  | [], _ => .nil
  | q :: qs, h => .cons (.tup (SqT.of (h q List.mem_cons_self)) (dp_strs _)) (dp_lines fun z hz => h z (List.mem_cons_of_mem _ hz))
theorem LinesAt.dp {K : PySem.W.Frag} {H : Hp} {t : Addr} {qs : List (Addr × List Str)} (h : LinesAt H t qs) : Dp K H (.ref t) (linesD (qs.map Prod.snd)) := .tup (SqT.of h.1) (dp_lines h.2)
theorem shaped_lines {ls : List (List Str)} (h : ∀ ws ∈ ls, ∀ z ∈ ws, PyData.strOk z = true) : SeqAt.shaped (linesD ls) = true :=
  shaped_of (by simp only [linesD, plainD, plain_lines h]) (by have := depth_lines ls; simp only [linesD, PyData.depth]; omega)
section
variable {P : Program} {w : World} {K : PySem.W.Frag} {mg : Str → Option Value} {base : Heap}
def sp_Layout_cells (C : Addr) : Sp := fun vs H Q _ => ∃ (p sd nd : Addr) (cs : List (Str × Nat)) (r : Nat) (ls : List (List Str)), vs = [.ref p] ∧ LayAt C H p sd nd cs r ls ∧ ∀ q, H q = none → Q (.ref q) (upd H q (.dK (cellKv cs)))
theorem ok_Layout_cells {f C : Addr} {fd : FuncData} (F : Fun K "cells" "Layout.cells" s_Layout_cells f fd) (T : Txt0 K mg) (TL : TxtL K mg C) : FnOk P w K mg base CX0 1 f fd p_Layout_cells (sp_Layout_cells C) := by
  refine F.ok sc_Layout_cells (fun vs H Q E h => ?_) (fun cdv A outer s H vs Q E hr h => ?_)
  · obtain ⟨p, sd, nd, cs, r, ls, rfl, _⟩ := h
    rfl
  · obtain ⟨p, sd, nd, cs, r, ls, rfl, ⟨dx, t, qs, h1, h2, h3, h4, h5⟩, k⟩ := h
    refine ⟨_, pss_one (ps_ret (pe_callTy call_dictD (by rfl) T.dict (by decide +kernel) (pa_cons (pe_fld (pv 0) rfl) pa_nil))), ?_⟩
    exact ⟨_, rfl, p, C, dx, _, _, rfl, h1, TL.cl, TL.nS, lk_sizes, sd, cellKv cs, rfl, .inl h2, fun q hq => k q hq⟩
def sp_Layout_line_of (C : Addr) : Sp := fun vs H Q _ => ∃ (p sd nd : Addr) (cs : List (Str × Nat)) (r : Nat) (ls : List (List Str)) (z : Str) (n : Nat), vs = [.ref p, .str z] ∧ LayAt C H p sd nd cs r ls ∧ valV (mergeK [] (numPr ls)) (Sum.inr z) = some (.int (n : Int)) ∧ Q (.int (n : Int)) H
theorem ok_Layout_line_of {f C : Addr} {fd : FuncData} (F : Fun K "line_of" "Layout.line_of" s_Layout_line_of f fd) (T : Txt0 K mg) (TL : TxtL K mg C) : FnOk P w K mg base CX0 1 f fd p_Layout_line_of (sp_Layout_line_of C) := by
  refine F.ok sc_Layout_line_of (fun vs H Q E h => ?_) (fun cdv A outer s H vs Q E hr h => ?_)
  · obtain ⟨p, sd, nd, cs, r, ls, z, n, rfl, _⟩ := h
    rfl
  · obtain ⟨p, sd, nd, cs, r, ls, z, n, rfl, ⟨dx, t, qs, h1, h2, h3, h4, h5⟩, hv, k⟩ := h
    refine ⟨_, pss_cons (ps_if (PW.pt (pw_or (pt_not (pt_val (pe_callB call_isi (by rfl) T.isinstance boot_isinstance (pa_cons (pv 1) (pa_cons (pe_bltn (by rfl) T.str boot_str (v := .ty "str") rfl) pa_nil)))))
        (pw_or1 (pt_cmp (pc_dnotin (hu_of hr) (pv 1) (pe_fld (pv 0) rfl)))))) (pss_one ps_never) pss_nil)
      (pss_one (ps_ret (pe_dget (hu_of hr) (pe_fld (pv 0) rfl) (pv 1) (fun _ _ => rfl)))), ?_⟩
    have gg := DGet.k (k := Sum.inr z) h3
    rw [hv] at gg
    refine ⟨_, rfl, _, _, _, _, true, rfl, .ty _, .base (.str _), kit_ty (by decide +kernel), _, rfl, iteF ?_⟩
    refine ⟨_, rfl, _, rfl, p, C, dx, _, _, rfl, h1, TL.cl, TL.nN, lk_numbers, nd, _, rfl, gg, _, rfl, iteF ?_⟩
    exact ⟨_, rfl, p, C, dx, _, _, rfl, h1, TL.cl, TL.nN, lk_numbers, _, rfl, nd, _, rfl, gg, k⟩
/-- == of equal layouts -/
def sp_Layout_eq (C : Addr) : Sp := fun vs H Q _ => ∃ (p sd nd p2 sd2 nd2 : Addr) (cs : List (Str × Nat)) (r : Nat) (ls : List (List Str)), vs = [.ref p, .ref p2] ∧ LayAt C H p sd nd cs r ls ∧ LayAt C H p2 sd2 nd2 cs r ls ∧ (cs.map Prod.fst).Nodup ∧ (∀ ws ∈ ls, ∀ z ∈ ws, PyData.strOk z = true) ∧ Q (.bl true) H
theorem ok_Layout_eq {f C : Addr} {fd : FuncData} (F : Fun K "__eq__" "Layout.__eq__" s_Layout_eq f fd) (T : Txt0 K mg) (TL : TxtL K mg C) (TE : TxtE K C) : FnOk P w K mg base CX0 1 f fd p_Layout_eq (sp_Layout_eq C) := by
  refine F.ok sc_Layout_eq (fun vs H Q E h => ?_) (fun cdv A outer s H vs Q E hr h => ?_)
  · obtain ⟨p, sd, nd, p2, sd2, nd2, cs, r, ls, rfl, _⟩ := h
    rfl
  · obtain ⟨p, sd, nd, p2, sd2, nd2, cs, r, ls, rfl, l1, l2, ndp, ok, k⟩ := h
    have ty2 := ty_lay TE TL l2
    obtain ⟨dx, t, qs, h1, h2, h3, h4, h5⟩ := l1
    obtain ⟨dx2, t2, qs2, g1, g2, g3, g4, g5⟩ := l2
    refine ⟨_, pss_one (ps_ret (pe_and (pe_callB call_isi (by rfl) T.isinstance boot_isinstance (pa_cons (pv 1) (pa_cons (pe_glob (v := .ref C) rfl TL.mgC rfl) pa_nil)))
      (pe_and (pe_cmpR (op_eq_dictA (Nat.lt_of_le_of_lt (Nat.le_add_right _ 64) hr.units)) (pe_fld (pv 0) rfl) (pe_fld (pv 1) rfl) (nomark _))
      (pe_and (pe_cmpR op_eq (pe_fld (pv 0) rfl) (pe_fld (pv 1) rfl) (nomark _))
      (pe_one (pe_cmpR (op_eqD hr.units) (pe_fld (pv 0) rfl) (pe_fld (pv 1) rfl) (nomark _))))))), ?_⟩
    refine ⟨_, rfl, _, _, _, _, true, rfl, .own C, ty2, kit_self, true, rfl, iteT ?_⟩
    refine ⟨_, rfl, p, C, dx, _, _, rfl, h1, TL.cl, TL.nS, lk_sizes, _, rfl, p2, C, dx2, _, _, rfl, g1, TL.cl, TL.nS, lk_sizes, sd, sd2, _, _, rfl, rfl, h2, g2, rfl, fun q hq => ?_, true, rfl, iteT ?_⟩
    · refine ⟨val_mem (by rw [show (cellKv cs).map Prod.fst = (cs.map Prod.fst).map Sum.inr from cell_keys cs]; exact ndp.map _ fun _ _ h e => h (Sum.inr.inj e)) hq, ?_⟩
      obtain ⟨c, _, rfl⟩ := List.mem_map.mp hq
      rfl
    · refine ⟨_, rfl, p, C, dx, _, _, rfl, h1, TL.cl, TL.nR, lk_room, _, rfl, p2, C, dx2, _, _, rfl, g1, TL.cl, TL.nR, lk_room, rfl, ?_⟩
      rw [decide_eq_true (p := V.int (r : Int) = V.int (r : Int)) rfl]
      refine ⟨true, rfl, iteT ⟨_, rfl, p, C, dx, _, _, rfl, h1, TL.cl, TL.nL, lk_lines, _, rfl, p2, C, dx2, _, _, rfl, g1, TL.cl, TL.nL, lk_lines, linesD ls, linesD ls, h5 ▸ h4.dp, g5 ▸ g4.dp, shaped_lines ok, shaped_lines ok, ?_⟩⟩
      rw [eqv_self (by simp only [linesD, plainD, plain_lines ok])]
      exact k
end
end Vf

set_option maxRecDepth 100000
set_option maxHeartbeats 8000000
namespace Vf
open PySem PySem.Spec PyProof.Rows L2
def maxOf (cs : List (Str × Nat)) : Nat := (cs.map Prod.snd).foldl max 0
theorem le_fold : ∀ (l : List Nat) (a : Nat), a ≤ l.foldl max a ∧ (∀ x ∈ l, x ≤ l.foldl max a) ∧ (l.foldl max a = a ∨ l.foldl max a ∈ l)
  | [], a => ⟨Nat.le_refl _, (fun _ h => nomatch h), .inl rfl⟩
  | b :: l, a => by
    obtain ⟨h1, h2, h3⟩ := le_fold l (max a b)
    rw [List.foldl_cons]
    refine ⟨by omega, fun x hx => ?_, ?_⟩
    · rcases List.mem_cons.mp hx with rfl | hx
      · omega
      · exact h2 x hx
    · rcases h3 with h3 | h3
      · rw [h3]
        by_cases h : a ≤ b
        · right
          rw [Nat.max_eq_right h]
          exact List.mem_cons_self
        · left
          exact Nat.max_eq_left (by omega)
      · exact .inr (List.mem_cons_of_mem _ h3)
theorem maxOf_of {cs : List (Str × Nat)} {m : Int} (h1 : m ∈ cs.map fun p => (p.2 : Int)) (h2 : ∀ y ∈ cs.map (fun p => (p.2 : Int)), y ≤ m) : m = (maxOf cs : Int) := by
  obtain ⟨p, hp, rfl⟩ := List.mem_map.mp h1
  obtain ⟨_, g2, g3⟩ := le_fold (cs.map Prod.snd) 0
  have a := g2 p.2 (List.mem_map_of_mem hp)
  have b : maxOf cs ≤ p.2 := by
    unfold maxOf
    rcases g3 with g3 | g3
    · omega
    · obtain ⟨q, hq, e⟩ := List.mem_map.mp g3
      rw [← e]
      have := h2 (q.2 : Int) (List.mem_map_of_mem (f := fun p : Str × Nat => (p.2 : Int)) hq)
      omega
  have : maxOf cs = p.2 := Nat.le_antisymm b a
  omega
theorem size_le_max {cs : List (Str × Nat)} {p : Str × Nat} (h : p ∈ cs) : p.2 ≤ maxOf cs := (le_fold (cs.map Prod.snd) 0).2.1 p.2 (List.mem_map_of_mem h)
theorem size_of_mem {cs : List (Str × Nat)} (nd : (cs.map Prod.fst).Nodup) {p : Str × Nat} (h : p ∈ cs) : sizeOf? cs p.1 = some p.2 := by
  unfold sizeOf?
  induction cs with
  | nil => cases h
  | cons q r ih =>
    rw [List.map_cons, List.nodup_cons] at nd
    rw [List.find?_cons]
    rcases List.mem_cons.mp h with rfl | h
    · rw [decide_eq_true rfl]
      rfl
    · rw [decide_eq_false fun e => nd.1 (by rw [e]; exact List.mem_map_of_mem h)]
      exact ih nd.2 h
theorem maxOf_good {cs : List (Str × Nat)} (g : GoodCs cs) : 1 ≤ maxOf cs ∧ maxOf cs ≤ 8 := by
  constructor
  · cases e : cs with
    | nil => exact absurd e g.some
    | cons p r =>
      rw [← e]
      have hp : p ∈ cs := by rw [e]; exact List.mem_cons_self
      exact Nat.le_trans (g.size p hp).1 (size_le_max hp)
  · unfold maxOf
    rcases (le_fold (cs.map Prod.snd) 0).2.2 with h | h
    · omega
    · obtain ⟨q, hq, e⟩ := List.mem_map.mp h
      rw [← e]
      exact (g.size q hq).2
/-- the lines of own: a line for each cell -/
def ownLs (cs : List (Str × Nat)) : List (List Str) := sortL (cs.map fun p => [p.1])
theorem linesOf_own {cs : List (Str × Nat)} {ps : List (Addr × List Str)} (h : ps.map Prod.snd = cs.map fun p => [p.1]) : linesOf ps = ownLs cs := by
  unfold linesOf ownLs
  have e : (ps.map fun p => srt p.2) = (ps.map Prod.snd).map srt := by rw [List.map_map]; rfl
  rw [e, h, List.map_map]
  congr 1
  exact List.map_congr_left fun p _ => srt_one p.1
/-- lists of one text each -/
theorem ones_of {H : Hp} : ∀ (zs : List Str) (xs : List V), xs.length = zs.length → (∀ (i : Nat) (z : Str) (v : V), zs[i]? = some z → xs[i]? = some v → ∃ t, v = .ref t ∧ H t = some (.lst [.str z])) →
    ∃ ps : List (Addr × List Str), xs = ps.map (fun q => V.ref q.1) ∧ ps.map Prod.snd = zs.map (fun z => [z]) ∧ ∀ q ∈ ps, H q.1 = some (.lst (q.2.map V.str))
  | [], [], _, _ => ⟨[], rfl, rfl, (fun _ h => nomatch h)⟩
  | [], _ :: _, h, _ => by simp at h
  | _ :: _, [], h, _ => by simp at h
  | z :: zs, v :: xs, h, hp => by
    obtain ⟨t, rfl, ht⟩ := hp 0 z v rfl rfl
    obtain ⟨qs, e1, e2, e3⟩ := ones_of zs xs (by simpa using h) fun i a u h1 h2 => hp (i + 1) a u (by simpa using h1) (by simpa using h2)
    refine ⟨(t, [z]) :: qs, by rw [e1]; rfl, by rw [List.map_cons, e2]; rfl, fun q hq => ?_⟩
    rcases List.mem_cons.mp hq with rfl | hq
    · exact ht
    · exact e3 q hq
theorem ones_flat {ps : List (Addr × List Str)} {zs : List Str} (h : ps.map Prod.snd = zs.map fun z => [z]) : ps.flatMap Prod.snd = zs := by
  rw [List.flatMap_def, h]
  clear h
  induction zs with
  | nil => rfl
  | cons z r ih => rw [List.map_cons, List.flatten_cons, ih]; rfl
/-- lines with one cell each, as they are handed in -/
theorem ones_in {H : Hp} {l : Addr} {cs : List (Str × Nat)} {ps : List (Addr × List Str)} (g : GoodCs cs) (hl : H l = some (.lst (ps.map fun p => V.ref p.1))) (he : ∀ q ∈ ps, H q.1 = some (.lst (q.2.map V.str))) (h : ps.map Prod.snd = cs.map fun p => [p.1]) : InLines H l cs (maxOf cs) ps := by
  refine ⟨hl, fun q hq => ⟨he q hq, ?_⟩, ?_⟩
  · have hm : q.2 ∈ ps.map Prod.snd := List.mem_map_of_mem hq
    rw [h] at hm
    obtain ⟨p, hp, e⟩ := List.mem_map.mp hm
    have e' : [p.1] = q.2 := e
    rw [← e']
    refine ⟨by simp, ?_⟩
    have : sizeOfD cs p.1 = p.2 := by unfold sizeOfD; rw [size_of_mem g.nd hp]; rfl
    show (([p.1].map (sizeOfD cs)).sum) ≤ _
    rw [List.map_cons, List.map_nil, List.sum_cons, List.sum_nil, this]
    exact size_le_max hp
  · rw [ones_flat (zs := cs.map Prod.fst) (by rw [h, List.map_map]; rfl)]
section
variable {P : Program} {w : World} {K : PySem.W.Frag} {mg : Str → Option Value} {base : Heap}
def sp_own (C : Addr) : Sp := fun vs H Q _ => ∃ (d : Addr) (cs : List (Str × Nat)), vs = [.ref d] ∧ H d = some (.dK (cellKv cs)) ∧ GoodCs cs ∧
  ∀ p sd nd H', Same H H' → H p = none → H sd = none → H nd = none → sd ≠ nd → LayAt C H' p sd nd (srtCs cs) (maxOf cs) (ownLs cs) → Q (.ref p) H'
theorem ok_own {f C fI : Addr} {fd fdI : FuncData} (F : Fun K "own" "own" s_own f fd) (T : Txt0 K mg) (TL : TxtL K mg C) (GC : OkF P w K mg base CX0 "_check_cells" p_check_cells 3 sp_check_cells) (M : Mk K C fI) (GI : FnOk P w K mg base CX0 4 fI fdI p_Layout_init (sp_Layout_init C)) (bI : Binds K fdI p_Layout_init []) :
    FnOk P w K mg base CX0 6 f fd p_own (sp_own C) := by
  refine F.ok sc_own (fun vs H Q E h => ?_) (fun cdv A outer s H vs Q E hr h => ?_)
  · obtain ⟨d, cs, rfl, _⟩ := h
    rfl
  · obtain ⟨d, cs, rfl, hd, g, k⟩ := h
    refine ⟨_, pss_cons (ps_expr (pe_fn GC (hr.mono (by decide)) rfl pass0 (pa_cons (pv 0) pa_nil)))
      (pss_cons (ps_set (i := 1) sc_own.nd rfl (Or.inl rfl) (pe_callB (cr_max rfl) (by rfl) T.max (by decide +kernel) (pa_cons (pe_lock (pe_lc (own := [("name", 2)]) (g := gName 2) (tt := tYes) rfl sc_own.nd (pi_keys (pv 0)) (blkOk_by (N := n_own) (sc := defScope s_own) (by decide +kernel))
          (fun _ _ _ _ _ => pg_name (i := 2) sc_own.nd rfl (Or.inl rfl)) (fun _ _ _ _ _ => pts_nil) (fun _ _ _ _ _ => pe_dget (hu_of hr) (pv 0) (pv 2) (fun _ _ => rfl)))) pa_nil)))
      (pss_one (ps_ret (pe_make M GI hr rfl TL.mgC bI .nil pass0 (pa_cons (pv 0) (pa_cons (pv 1) (pa_cons
        (pe_lock (pe_lc (own := [("name", 2)]) (g := gName 2) (tt := tYes) rfl sc_own.nd (pi_keys (pv 0)) (blkOk_by (N := n_own) (sc := defScope s_own) (by decide +kernel))
          (fun _ _ _ _ _ => pg_name (i := 2) sc_own.nd rfl (Or.inl rfl)) (fun _ _ _ _ _ => pts_nil) (fun _ _ _ _ _ => pe_lst (pa_cons (pv 2) pa_nil)))) pa_nil))))))), ?_⟩
    have few := g.few
    have kl : (cellKv cs).length = cs.length := List.length_map ..
    refine ⟨_, rfl, d, cs, rfl, hd, g, fun H1 s1 => ?_⟩
    have hd1 := s1 _ _ hd
    refine ⟨d, _, hd1, True.intro, fun o => ?_⟩
    have hz : (upd H1 d (.frz o (.dK (cellKv cs)))) d = some (.frz o (.dK (cellKv cs))) := upd_same
    have wk : ∀ {o : Obj}, Walk (Itk d o (cellKv cs)) cs.length (fun H => H d = some (.frz o (.dK (cellKv cs)))) (fun i H x H' => H' = H ∧ ∃ k v, (cellKv cs)[i]? = some (k, v) ∧ x = kV k) := fun {o} => (walk_keys (d := d) (o := o) (kvs := cellKv cs) |> fun z => by rw [kl] at z; exact z)
    refine ⟨_, rfl, d, o, rfl, .inl ⟨_, hz, fun D hD => lc_mp cs wk hD (fun p => .int (p.2 : Int)) (by omega) (fun H5 s5 => s5 _ _ hz) ?_ ?_⟩⟩
    · rintro j p x H2 H3 hj s2 ⟨rfl, k', v', hkv, rfl⟩ R hR
      have e : (cellKv cs)[j]? = some (Sum.inr p.1, V.int (p.2 : Int)) := by unfold cellKv; rw [List.getElem?_map, hj]; rfl
      rw [e] at hkv
      have e2 := Option.some.inj hkv
      obtain rfl : Sum.inr p.1 = k' := (Prod.mk.inj e2).1
      have gg : DGet H3 d (kV (Sum.inr p.1)) (valV (cellKv cs) (Sum.inr p.1)) := .inl ⟨cellKv cs, Sum.inr p.1, .inr ⟨o, s2 _ _ hz⟩, rfl, rfl⟩
      rw [valV_cells, size_of_mem g.nd (List.mem_of_getElem? hj)] at gg
      exact ⟨rfl, _, rfl, _, rfl, d, _, rfl, gg, hR _ (Same.refl _)⟩
    · intro H2 s2 hL
      refine ⟨s2 _ _ hz, D, cs.map (fun p => (p.2 : Int)), rfl, SqL.of ?_, by rw [List.length_map]; exact List.length_pos_iff.mpr g.some, fun m hm1 hm2 => ?_⟩
      · rw [upd_ne (ne_of_none hz hD).symm, hL, List.map_map]
        rfl
      · obtain rfl := maxOf_of hm1 hm2
        have s12 : Same H1 (upd H2 d (.dK (cellKv cs))) := unlock_same hd1 s2
        generalize (upd H2 d (.dK (cellKv cs))) = H3 at s12 ⊢
        have s13 := s1.trans s12
        have hd3 := s13 _ _ hd
        refine ⟨_, rfl, _, rfl, d, _, hd3, True.intro, fun o2 => ?_⟩
        have hz2 : (upd H3 d (.frz o2 (.dK (cellKv cs)))) d = some (.frz o2 (.dK (cellKv cs))) := upd_same
        refine ⟨_, rfl, d, o2, rfl, .inl ⟨_, hz2, fun D2 hD2 => lc_ad (cs.map Prod.fst) (wk (o := o2) |> fun z => by rw [← List.length_map (f := Prod.fst)] at z; exact z) hD2 (fun z v H => ∃ t, v = .ref t ∧ H t = some (.lst [.str z]) ∧ t ≠ d) (by rw [List.length_map]; omega) (fun H5 s5 => s5 _ _ hz2) ?_ ?_⟩⟩
        · rintro j z x H4 H5 hj s4 ⟨acc, hacc⟩ ⟨rfl, k', v', hkv, rfl⟩ R hR
          rw [List.getElem?_map] at hj
          cases ej : cs[j]? with
          | none => rw [ej] at hj; cases hj
          | some p =>
            rw [ej] at hj
            obtain rfl : p.1 = z := Option.some.inj hj
            have e : (cellKv cs)[j]? = some (Sum.inr p.1, V.int (p.2 : Int)) := by unfold cellKv; rw [List.getElem?_map, ej]; rfl
            rw [e] at hkv
            obtain rfl : Sum.inr p.1 = k' := (Prod.mk.inj (Option.some.inj hkv)).1
            refine ⟨rfl, _, rfl, (by show 1 ≤ sizeLine; decide), fun t ht => ?_⟩
            exact hR (.ref t) _ (same_new ht) fun H8 b8 => ⟨t, rfl, b8 t _ (ne_of_none hacc ht).symm upd_same, (ne_of_none (s4 _ _ hz2) ht).symm⟩
        · intro H4 xs s4 hL hlen hpr
          refine ⟨s4 _ _ hz2, ?_⟩
          have s34 : Same H3 (upd H4 d (.dK (cellKv cs))) := unlock_same hd3 s4
          have hL5 : (upd H4 d (.dK (cellKv cs))) D2 = some (.lst xs) := by rw [upd_ne (ne_of_none hz2 hD2).symm, hL]
          have hpr5 : ∀ (i : Nat) (z : Str) (v : V), (cs.map Prod.fst)[i]? = some z → xs[i]? = some v → ∃ t, v = .ref t ∧ (upd H4 d (.dK (cellKv cs))) t = some (.lst [.str z]) := fun i z v h1 h2 => by
            obtain ⟨t, e1, e2, e3⟩ := hpr i z v h1 h2
            exact ⟨t, e1, by rw [upd_ne e3]; exact e2⟩
          generalize (upd H4 d (.dK (cellKv cs))) = H5 at s34 hL5 hpr5 ⊢
          obtain ⟨ps, rfl, eps, hps⟩ := ones_of (H := H5) (cs.map Prod.fst) xs hlen hpr5
          have eps' : ps.map Prod.snd = cs.map fun p => [p.1] := by rw [eps, List.map_map]; rfl
          have il := ones_in g hL5 hps eps'
          obtain ⟨m1, m2⟩ := maxOf_good g
          have s15 := s13.trans s34
          refine fun x dx hx hdx hne => ?_
          have s0 : Same H5 (upd (upd H5 dx (.own x)) x (.ins C dx [])) := same_upd (same_new hdx) hx
          refine ⟨x, dx, d, D2, cs, maxOf cs, ps, rfl, upd_same, s0 _ _ (s15 _ _ hd), g, m1, by omega, il.same s0, fun H' sd nd b hsd hnd hsn lay => ⟨rfl, ?_⟩⟩
          rw [linesOf_own eps'] at lay
          exact k x sd nd H' (s15.trans (b.same s0 hx)) (none_back s15 hx) (none_back (s15.trans s0) hsd) (none_back (s15.trans s0) hnd) hsn lay
end
end Vf

set_option maxRecDepth 100000
set_option maxHeartbeats 8000000
namespace Vf
open PySem PySem.Spec PyProof.Rows L2
structure TxtM (mg : Str → Option Value) : Prop where
  abs : mg "abs" = none
  range : mg "range" = none
  set : mg "set" = none
  repr : mg "repr" = none
  min : mg "min" = none
/-- the draws at p -/
def FeedAt (H : Hp) (p : Addr) : Prop := ∃ d st : Int, H p = some (.lst [.int d, .int st]) ∧ 0 ≤ d ∧ 0 ≤ st
theorem FeedAt.same {H H' : Hp} {p : Addr} (h : FeedAt H p) (s : Same H H') : FeedAt H' p := by
  obtain ⟨d, st, h1, h2, h3⟩ := h
  exact ⟨d, st, s _ _ h1, h2, h3⟩
theorem But.new {p l : Addr} {H H' : Hp} {o : HO} (b : But p H H') (h : H l = none) : But p H (upd H' l o) := fun c u hc e => by
  rw [upd_ne (ne_of_none e h)]
  exact b c u hc e
theorem FeedAt.put {H : Hp} {p l : Addr} {o : HO} (h : FeedAt H p) (hn : p ≠ l) : FeedAt (upd H l o) p := by
  obtain ⟨d, st, h1, h2, h3⟩ := h
  exact ⟨d, st, by rw [upd_ne hn]; exact h1, h2, h3⟩
theorem FeedAt.ne {H : Hp} {p l : Addr} (h : FeedAt H p) (hl : H l = none) : p ≠ l := by
  obtain ⟨d, st, h1, _⟩ := h
  exact ne_of_none h1 hl
theorem But.free {p o : Addr} {H H' : Hp} (b : But p H H') (f : FeedAt H' p) (h : H' o = none) : H o = none := by
  obtain ⟨d, st, g, _⟩ := f
  exact none_but b g h
def low (z : Str) : Prop := ∀ c ∈ z.cps.toList, 97 ≤ c ∧ c ≤ 122
theorem name_of_low {z : Str} (h : low z) (h1 : 1 ≤ z.length) (h2 : z.length ≤ 8) : isNameT z = true := by
  unfold isNameT
  rw [decide_eq_true h1, decide_eq_true h2, Bool.true_and, Bool.true_and, List.all_eq_true]
  intro c hc
  have := h c hc
  simpa using this
def sAbc : Str := "abcdefghijklmnopqrstuvwxyz"
theorem abc_low : low sAbc := fun c hc => by
  have q : (sAbc.cps.toList.all fun c => decide (97 ≤ c) && decide (c ≤ 122)) = true := by decide +kernel
  have := List.all_eq_true.mp q c hc
  simpa using this
section
variable {P : Program} {w : World} {K : PySem.W.Frag} {mg : Str → Option Value} {base : Heap}
def sp_law_feed (K : PySem.W.Frag) : Sp := fun vs H Q _ => ∃ (a : Addr) (ns : List Int) (k : Nat), vs = [.ref a, .int (k : Int)] ∧ SqL K H a (ns.map V.int) ∧ k ≤ 1000 ∧ ∀ p H', Same H H' → H p = none → FeedAt H' p → Q (.ref p) H'
theorem ok_law_feed {f : Addr} {fd : FuncData} (F : Fun K "_law_feed" "_law_feed" s_law_feed f fd) (T : Txt0 K mg) (TM : TxtM mg) : FnOk P w K mg base CX0 1 f fd p_law_feed (sp_law_feed K) := by
  refine F.ok sc_law_feed (fun vs H Q E h => ?_) (fun cdv A outer s H vs Q E hr h => ?_)
  · obtain ⟨a, ns, k, rfl, _⟩ := h
    rfl
  · obtain ⟨a, ns, k, rfl, hS, hk, q⟩ := h
    refine ⟨_, C8.pss_cut (ps_set (i := 2) sc_law_feed.nd rfl (Or.inl rfl) (pe_ifExp (pt_cmpR op_lt (pv 1) (pe_callB call_len_seq (by rfl) T.len PySem.boot_len (pa_cons (pv 0) pa_nil)) (nomark _)) (pe_ix ix_list (pv 0) (pv 1) (fun _ _ => rfl)) (pe_op op_add (pe_op op_mul pe_int (pv 1)) pe_int)))
      (pss_cons (ps_set (i := 3) sc_law_feed.nd rfl (Or.inl rfl) (pe_callB (call_max2 rfl) (by rfl) T.max (by decide +kernel) (pa_cons pe_int (pa_cons (pe_op op_sub (pe_callB call_abs (by rfl) TM.abs (by decide +kernel) (pa_cons (pv 2) pa_nil)) (pe_op op_pow pe_int pe_int)) pa_nil))))
      (pss_cons (ps_set (i := 4) sc_law_feed.nd rfl (Or.inl rfl) (pe_op op_mod (pe_callTy call_int1 (by rfl) T.int (by decide +kernel) (pa_cons
          (pe_op op_add (pe_op op_add (pe_op op_mul (pv 2) pe_int) (pe_op op_mul pe_int (pv 1))) pe_int) pa_nil)) pe_int))
      (pss_one (ps_ret (pe_lst (pa_cons (pv 3) (pa_cons (pv 4) pa_nil))))))), ?_⟩
    have z18 : (0 : Int) ≤ 18 ∧ (18 : Int) ≤ 1000000 ∧ (10 : Int).natAbs < 2 ^ 64 := by decide
    refine ⟨fun σ H' => H' = H ∧ ∃ cell : Int, σ = [some (.ref a), some (.int (k : Int)), some (.int cell), none, none], ?_, ?_⟩
    · refine ⟨_, rfl, _, rfl, a, _, rfl, .inl hS, _, _, rfl, rfl, _, rfl, ?_⟩
      rw [List.length_map]
      by_cases hkn : k < ns.length
      · rw [decide_eq_true (p := (k : Int) < (ns.length : Int)) (by omega)]
        exact iteT ⟨_, rfl, _, rfl, a, _, (k : Int), .int ns[k], rfl, rfl, hS, at_of rfl (by rw [List.getElem?_map, List.getElem?_eq_getElem hkn]; rfl), rfl, _, rfl⟩
      · rw [decide_eq_false (p := (k : Int) < (ns.length : Int)) (by omega)]
        exact iteF ⟨_, rfl, 83, k, rfl, rfl, .inl (by decide), _, _, rfl, rfl, rfl, _, rfl⟩
    · rintro σ H' ⟨rfl, cell, rfl⟩
      refine ⟨_, rfl, cell, rfl, 10, 18, rfl, rfl, z18, _, _, rfl, rfl, _, _, rfl, ?_⟩
      refine ⟨_, rfl, cell, 6364136223846793005, rfl, rfl, .inr (by decide), _, rfl, 7919, k, rfl, rfl, .inl (by decide), _, _, rfl, rfl, _, _, rfl, rfl, .inl ⟨_, rfl, _, _, rfl, rfl, (by show (0 : Int) < 2305843009213693951; decide), ?_⟩⟩
      refine ⟨_, rfl, _, rfl, (by show 2 ≤ sizeLine; decide), fun p hp => q p _ (same_new hp) hp ⟨_, _, upd_same, ?_, Int.emod_nonneg _ (by decide)⟩⟩
      split <;> omega
def sp_law_take : Sp := fun vs H Q _ => ∃ (p : Addr) (n : Nat), vs = [.ref p, .int (n : Int)] ∧ FeedAt H p ∧ 1 ≤ n ∧ n ≤ 1000000 ∧ ∀ (r : Nat) H', r < n → But p H H' → FeedAt H' p → Q (.int (r : Int)) H'
theorem ok_law_take {f : Addr} {fd : FuncData} (F : Fun K "_law_take" "_law_take" s_law_take f fd) (T : Txt0 K mg) : FnOk P w K mg base CX0 1 f fd p_law_take sp_law_take := by
  refine F.ok sc_law_take (fun vs H Q E h => ?_) (fun cdv A outer s H vs Q E hr h => ?_)
  · obtain ⟨p, n, rfl, _⟩ := h
    rfl
  · obtain ⟨p, n, rfl, ⟨d, st, hp, hd, hst⟩, h1, h2, k⟩ := h
    refine ⟨_, pss_cons (ps_if (pt_cmpR op_gt (pe_ix ix_list (pv 0) pe_int (fun _ _ => rfl)) pe_int (nomark _))
        (pss_cons (ps_set (i := 2) sc_law_take.nd rfl (Or.inl rfl) (pe_op op_mod (pe_callTy call_int1 (by rfl) T.int (by decide +kernel) (pa_cons (pe_ix ix_list (pv 0) pe_int (fun _ _ => rfl)) pa_nil)) (pv 1)))
        (pss_cons (ps_asg (pe_op op_fdivN (pe_ix ix_list (pv 0) pe_int (fun _ _ => rfl)) (pv 1)) (pg_sub (pv 0) pe_int set_list))
        (pss_one (ps_ret (pv 2))))) pss_nil)
      (pss_cons (ps_asg (pe_op op_mod (pe_callTy call_int1 (by rfl) T.int (by decide +kernel) (pa_cons (pe_op op_add (pe_op op_mul (pe_ix ix_list (pv 0) pe_int (fun _ _ => rfl)) pe_int) pe_int) pa_nil)) pe_int) (pg_sub (pv 0) pe_int set_list))
      (pss_one (ps_ret (pe_op op_mod (pe_callTy call_int1 (by rfl) T.int (by decide +kernel) (pa_cons (pe_op op_fdivN (pe_ix ix_list (pv 0) pe_int (fun _ _ => rfl)) pe_int) pa_nil)) (pv 1))))), ?_⟩
    refine ⟨_, rfl, p, _, (0 : Int), .int d, rfl, rfl, SqL.of hp, at_of (j := 0) rfl rfl, _, _, rfl, rfl, _, rfl, ?_⟩
    by_cases hd0 : 0 < d
    · rw [decide_eq_true hd0]
      refine iteT ⟨_, rfl, p, _, (0 : Int), .int d, rfl, rfl, SqL.of hp, at_of (j := 0) rfl rfl, .inl ⟨d, rfl, _, rfl, d, n, rfl, rfl, (by omega), ?_⟩⟩
      refine ⟨_, rfl, p, _, (0 : Int), .int d, rfl, rfl, SqL.of hp, at_of (j := 0) rfl rfl, _, rfl, d, n, rfl, rfl, ⟨by omega, by omega⟩, _, rfl, ?_⟩
      refine ⟨p, _, (0 : Int), 0, rfl, rfl, hp, rfl, ?_⟩
      refine ⟨_, rfl, ?_⟩
      have hm1 := Int.emod_nonneg d (b := (n : Int)) (by omega)
      have hm2 := Int.emod_lt_of_pos d (b := (n : Int)) (by omega)
      obtain ⟨r, hr⟩ : ∃ r : Nat, d % (n : Int) = (r : Int) := ⟨(d % (n : Int)).toNat, by omega⟩
      show Q (.int (d % (n : Int))) _
      rw [hr]
      refine k r _ (by omega) (But.refl p H).put ⟨d.fdiv n, st, upd_same, ?_, hst⟩
      exact Int.fdiv_nonneg hd (by omega)
    · rw [decide_eq_false hd0]
      refine iteF ⟨_, rfl, p, _, (1 : Int), .int st, rfl, rfl, SqL.of hp, at_of (j := 1) rfl rfl, _, _, rfl, rfl, .inr (by decide), _, _, rfl, rfl,
        .inl ⟨_, rfl, _, _, rfl, rfl, (by show (0 : Int) < 2305843009213693951; decide), _, rfl, p, _, (1 : Int), 1, rfl, rfl, hp, rfl, ?_⟩⟩
      have hp2 : (upd H p (.lst ([V.int d, V.int st].set 1 (.int ((st * 6364136223846793005 + 1442695040888963407) % 2305843009213693951))))) p = some (.lst [.int d, .int ((st * 6364136223846793005 + 1442695040888963407) % 2305843009213693951)]) := upd_same
      have hst2 := Int.emod_nonneg (st * 6364136223846793005 + 1442695040888963407) (by decide : (2305843009213693951 : Int) ≠ 0)
      refine ⟨_, rfl, p, _, (1 : Int), .int ((st * 6364136223846793005 + 1442695040888963407) % 2305843009213693951), rfl, rfl, SqL.of hp2, at_of (j := 1) rfl rfl, ((st * 6364136223846793005 + 1442695040888963407) % 2305843009213693951), 65536, rfl, rfl, ⟨by decide, by decide⟩, .inl ⟨_, rfl, _, rfl, _, (n : Int), rfl, rfl, by omega, ?_⟩⟩
      have hm1 := Int.emod_nonneg (((st * 6364136223846793005 + 1442695040888963407) % 2305843009213693951).fdiv 65536) (b := (n : Int)) (by omega)
      have hm2 := Int.emod_lt_of_pos (((st * 6364136223846793005 + 1442695040888963407) % 2305843009213693951).fdiv 65536) (b := (n : Int)) (by omega)
      obtain ⟨r, hr⟩ : ∃ r : Nat, (((st * 6364136223846793005 + 1442695040888963407) % 2305843009213693951).fdiv 65536) % (n : Int) = (r : Int) := ⟨((((st * 6364136223846793005 + 1442695040888963407) % 2305843009213693951).fdiv 65536) % (n : Int)).toNat, by omega⟩
      show Q (.int ((((st * 6364136223846793005 + 1442695040888963407) % 2305843009213693951).fdiv 65536) % (n : Int))) _
      rw [hr]
      exact k r _ (by omega) (But.refl p H).put ⟨d, ((st * 6364136223846793005 + 1442695040888963407) % 2305843009213693951), hp2, hd, hst2⟩
def sp_law_pick (K : PySem.W.Frag) : Sp := fun vs H Q _ => ∃ (p c : Addr) (xs : List V), vs = [.ref p, .ref c] ∧ FeedAt H p ∧ p ≠ c ∧ SqL K H c xs ∧ 1 ≤ xs.length ∧ xs.length ≤ 1000000 ∧
  ∀ (r : Nat) (v : V) H', xs[r]? = some v → But p H H' → FeedAt H' p → Q v H'
theorem SqL.but {K : PySem.W.Frag} {H H' : Hp} {a p : Addr} {xs : List V} (h : SqL K H a xs) (s : But p H H') (hn : a ≠ p) : SqL K H' a xs := by
  rcases h with (h | ⟨o, h⟩) | h
  · exact .inl (.inl (s _ _ hn h))
  · exact .inl (.inr ⟨o, s _ _ hn h⟩)
  · exact .inr h
theorem ok_law_pick {f : Addr} {fd : FuncData} (F : Fun K "_law_pick" "_law_pick" s_law_pick f fd) (T0 : Txt0 K mg) (GT : OkF P w K mg base CX0 "_law_take" p_law_take 1 sp_law_take) : FnOk P w K mg base CX0 2 f fd p_law_pick (sp_law_pick K) := by
  refine F.ok sc_law_pick (fun vs H Q E h => ?_) (fun cdv A outer s H vs Q E hr h => ?_)
  · obtain ⟨p, c, xs, rfl, _⟩ := h
    rfl
  · obtain ⟨p, c, xs, rfl, hp, hpc, hS, h1, h2, k⟩ := h
    refine ⟨_, pss_one (ps_ret (pe_ix ix_list (pv 1) (pe_fn GT hr rfl pass0 (pa_cons (pv 0) (pa_cons (pe_callB call_len_seq (by rfl) T0.len PySem.boot_len (pa_cons (pv 1) pa_nil)) pa_nil))) (fun _ _ => rfl))), ?_⟩
    refine ⟨_, rfl, _, rfl, _, rfl, c, xs, rfl, .inl hS, p, xs.length, rfl, hp, h1, h2, fun r H2 hr2 hb hp2 => ?_⟩
    exact ⟨c, xs, (r : Int), xs[r], rfl, rfl, Vf.SqL.but hS hb hpc.symm, at_of rfl (List.getElem?_eq_getElem hr2), k r _ H2 (List.getElem?_eq_getElem hr2) hb hp2⟩
end
end Vf

set_option maxRecDepth 100000
set_option maxHeartbeats 4000000
namespace Vf
open PySem PySem.Spec PyProof.Rows L2
section
variable {prog : Program} {w : World} {A : Around} {E : Value → Shared → Prop} {s : Shared}
theorem hint_text {x : Str} {t : Tok} {Q : Bool → Shared → Prop} (h : Q false s) : wpAny (model prog w) A (Builtin.List.listLengthHint (.str x t)) Q E s := by
  have hT : s.TypeIs (.str x t) "str" := typeIs_str _ _ _
  unfold Builtin.List.listLengthHint
  refine wpAny_bind (wpAny_specialOf hT PySem.F.slot_str_len.lookup ?_)
  generalize hid : ("str.__len__" : String) = id0
  wp_delta
  rw [show splitId id0 = some ("str", "__len__") from by subst hid; decide +kernel]
  subst hid
  refine wpAny_bind (wpAny_isInstance (T := "str") (b := true) hT (by rw [isSubtype_type]; kernel_rfl) (wpAny_ite_split (fun hab => absurd hab (by decide)) fun _ => ?_))
  exact wpAny_ite_split (fun _ => wpAny_bind (wpAny_typeOf hT (wpAny_pure h))) fun hab => absurd (by decide +kernel) hab
set_option maxHeartbeats 8000000 in
theorem call_list_text {x : Str} {t : Tok} {Q : Value → Shared → Prop} (hh : A.handled = none) (hn : x.cps.size ≤ sizeLine)
    (hQ : ∀ h' tk acc' c', (∀ b o, s.heap.get? b = some o → h'.get? b = some o) → h'.get? s.heap.objs.size = some { cls := .type "list", dict := none, data := .seq acc' c', slots := #[] } →
      ItemsOf (SignAt x) acc' x.cps.size → Q (.ref s.heap.objs.size) { s with heap := h', toks := tk }) :
    wpAny (model prog w) A (call (.type "list") [.str x t]) Q E s := by
  refine callType_codes (Q₁ := fun obj s₁ => obj = .ref s.heap.objs.size ∧ s₁ = { s with heap := s.heap.push { cls := .type "list", data := .seq #[] } }) PySem.F.called_list
    (PySem.F.typeCall_list_1 _) PySem.F.entry_list_init (code_list_new _ ⟨rfl, rfl⟩) ?_
  rintro _ _ ⟨rfl, rfl⟩
  have hS : (s.heap.push { cls := .type "list", data := .seq #[] }).get? s.heap.objs.size = some { cls := .type "list", data := .seq #[] } := Heap.get?_push_size _ rfl
  refine ⟨⟨_, hS, rfl⟩, PySem.F.args_list_init_2 _ _, ?_⟩
  generalize hS0 : s.heap.objs.size = S at hS ⊢
  show wpAny _ _ (do let old ← Builtin.List.listItems (.ref S); Builtin.List.listUpdate (.ref S) (fun _ => #[]); letGo old.toList.reverse; Builtin.List.listExtendWith (.ref S) (.str x t) .none) _ _ _
  refine wpAny_bind (show wpAny _ _ (Builtin.List.listItems (.ref S)) _ _ _ from ?_)
  unfold Builtin.List.listItems
  refine wpAny_bind (wpAny_seqItems hS rfl (wpAny_pure ?_))
  refine wpAny_bind (show wpAny _ _ (updateSeq S (fun _ => #[])) _ _ _ from wpAny_updateSeq hS rfl ?_)
  have hS2 := Heap.get?_update_self (Obj.mapSeq (fun _ => (#[] : Array Value))) hS rfl
  refine wpAny_bind (wpAny_letGo ?_)
  unfold Builtin.List.listExtendWith
  refine wpAny_bind (wpAny_typeOf (T := "str") (typeIs_str _ _ _) ?_)
  have n1 : Builtin.List.listSameRef (.ref S) (.str x t) = false := rfl
  have n2 : (Value.type "str" == Value.type "list") = false := by decide
  have n3 : (Value.type "str" == Value.type "tuple") = false := by decide
  simp only [n1, n2, n3, Bool.or_false, Bool.false_eq_true, if_false]
  refine wpAny_bind (wpAny_pyIter_str fun oI St W st => ?_)
  refine wpAny_bind (wpAny_holding (hint_text ?_))
  refine wpAny_ite_split (fun hab => absurd hab (by decide +kernel)) fun _ => wpAny_pure ⟨plainId_quiet PySem.F.plain_extend_loop _, ?_⟩
  have hS3 := Heap.get?_push_of_some oI hS2
  have W1 := (W A.in1.in1 hh).toS
  refine codeAny_extend_loopS W1 hn S ?_ .none x.cps.size 0 _ #[] _ rfl (Nat.zero_le _) st hS3 (ItemsOf.nil _) ?_
  · exact fun hm => absurd (Heap.lt_size hS2) (by rw [← List.mem_singleton.mp hm]; exact Nat.lt_irrefl _)
  · intro s' acc' c' hm hS' hacc
    rw [Moved.eq_with hm]
    suffices hk : ∀ b o, s.heap.get? b = some o → s'.heap.get? b = some o by
      have q := hQ s'.heap s'.toks acc' c' hk (by rw [hS0]; exact hS') hacc
      rw [hS0] at q
      exact ⟨rfl, q⟩
    intro b o e
    have hbS : b ≠ S := Nat.ne_of_lt (hS0 ▸ Heap.lt_size e)
    have e2 : (s.heap.push { cls := .type "list", data := .seq #[] }).get? b = some o := Heap.get?_push_of_some _ e
    have e3 := (Heap.get?_update_other (s.heap.push { cls := .type "list", data := .seq #[] }) (Obj.mapSeq (fun _ => (#[] : Array Value))) (Ne.symm hbS)).trans e2
    refine hm.heap b o (fun hmem => ?_) (Heap.get?_push_of_some oI e3)
    rcases List.mem_cons.mp hmem with e' | hmem
    · exact hbS e'
    · exact absurd (Heap.lt_size e3) (by rw [List.mem_singleton.mp hmem]; exact Nat.lt_irrefl _)
end
/-- list(text) -/
def rListS : List V → Hp → VK → Prop := fun vs H Q => ∃ z : Str, vs = [.str z] ∧ z.length ≤ sizeLine ∧ ∀ p, H p = none → Q (.ref p) (upd H p (.lst (z.cps.toList.map fun c => V.str ⟨#[c]⟩)))
theorem cr_listS {X : Cx} (hc : X.calm = true) : CallR X (.type "list") rListS := by
  intro pins s σ H vs us Q I r h
  obtain ⟨z, rfl, hz, q⟩ := h
  obtain ⟨u, rfl, t, rfl⟩ := vals1 r
  refine call_list_text (I.ok.hd hc) hz fun h' tk acc' c' k hS hacc => ?_
  refine ⟨.ref _, _, I.laid (t' := tk) k (Nat.le_refl _) (o := .lst (z.cps.toList.map fun c => V.str ⟨#[c]⟩)) ⟨by rw [List.length_map]; simpa [Str.length] using hz, acc'.toList, c', ?_, by rw [Array.toArray_toList]; exact hS⟩, rfl, q _ (I.hok.fresh (Nat.le_refl _))⟩
  refine vals_of_at (by rw [List.length_map, Array.length_toList, Array.length_toList, hacc.1]) fun j x w h1 h2 => ?_
  rw [Array.getElem?_toList] at h2
  obtain ⟨c, u, hcj, rfl⟩ := hacc.2 j w h2
  rw [List.getElem?_map, Array.getElem?_toList, hcj] at h1
  obtain rfl : V.str ⟨#[c]⟩ = x := Option.some.inj h1
  exact ⟨u, rfl⟩
end Vf

set_option maxRecDepth 100000
set_option maxHeartbeats 8000000
namespace Vf
open PySem PySem.Spec PyProof.Rows L2
section
variable {P : Program} {w : World} {K : PySem.W.Frag} {mg : Str → Option Value} {base : Heap}
def sp_law_word : Sp := fun vs H Q _ => ∃ p : Addr, vs = [.ref p] ∧ FeedAt H p ∧ ∀ (z : Str) H', But p H H' → FeedAt H' p → isNameT z = true → Q (.str z) H'
theorem ok_law_word {f : Addr} {fd : FuncData} (F : Fun K "_law_word" "_law_word" s_law_word f fd) (T : Txt0 K mg) (TM : TxtM mg) (GP : OkF P w K mg base CX0 "_law_pick" p_law_pick 2 (sp_law_pick K)) :
    FnOk P w K mg base CX0 3 f fd p_law_word sp_law_word := by
  refine F.ok sc_law_word (fun vs H Q E h => ?_) (fun cdv A outer s H vs Q E hr h => ?_)
  · obtain ⟨p, rfl, _⟩ := h
    rfl
  · obtain ⟨p, rfl, hp, k⟩ := h
    refine ⟨_, pss_cons (ps_set (i := 1) sc_law_word.nd rfl (Or.inl rfl) pe_str)
      (pss_cons (ps_for PassesOwn.never rfl (pi_range1 (by rfl) TM.range (pa_cons (pe_fn GP hr rfl pass0 (pa_cons (pv 0) (pa_cons (pe_lst (pa_cons pe_int (pa_cons pe_int (pa_cons pe_int (pa_cons pe_int (pa_cons pe_int pa_nil)))))) pa_nil))) pa_nil)) (pg_name (i := 2) sc_law_word.nd rfl (Or.inl rfl))
        (pss_one (ps_set (i := 1) sc_law_word.nd rfl (Or.inl rfl) (pe_op op_add_str (pv 1) (pe_fn GP hr rfl pass0 (pa_cons (pv 0) (pa_cons (pe_callTy (cr_listS rfl) (by rfl) T.list (by decide +kernel) (pa_cons pe_str pa_nil)) pa_nil)))))))
      (pss_one (ps_ret (pv 1)))), ?_⟩
    refine ⟨_, rfl, (by show 5 ≤ sizeLine; decide), fun c hc => ⟨p, c, _, rfl, hp.put (hp.ne hc), hp.ne hc, SqL.of upd_same, by decide, by decide, fun r v H1 hv b1 f1 => ?_⟩⟩
    have bH1 : But p H H1 := ((But.refl p H).new hc).trans b1
    obtain ⟨n, rfl, hn1, hn2⟩ : ∃ n : Nat, v = .int (n : Int) ∧ 1 ≤ n ∧ n ≤ 8 := by
      have hv' : ([V.int 1, .int 1, .int 2, .int 3, .int 8] : List V)[r]? = some v := hv
      match r, hv' with
      | 0, e => exact ⟨1, (Option.some.inj e).symm, by decide, by decide⟩
      | 1, e => exact ⟨1, (Option.some.inj e).symm, by decide, by decide⟩
      | 2, e => exact ⟨2, (Option.some.inj e).symm, by decide, by decide⟩
      | 3, e => exact ⟨3, (Option.some.inj e).symm, by decide, by decide⟩
      | 4, e => exact ⟨8, (Option.some.inj e).symm, by decide, by decide⟩
      | r + 5, e => exact absurd e (by simp)
    refine ⟨_, rfl, by omega, by omega, ?_⟩
    rw [show ((n : Int)).toNat = n from Int.toNat_natCast n]
    refine for_it (walk_range (lo := 0) (n := n)) (fun i σ H' => ∃ (v2 : Option V) (z : Str), σ = [some (.ref p), some (.str z), v2] ∧ But p H H' ∧ FeedAt H' p ∧ z.length = i ∧ low z) ⟨_, Str.ofString "", rfl, bH1, f1, rfl, fun c hc => by cases hc⟩ (fun _ _ _ _ _ => trivial) ?_ ?_
    · rintro i x σ H5 H6 hj ⟨v2, z, rfl, b5, f5, hz, hlow⟩ ⟨rfl, rfl⟩
      refine ⟨_, rfl, _, rfl, sAbc, rfl, (by decide +kernel), fun q hq => ⟨p, q, _, rfl, f5.put (f5.ne hq), f5.ne hq, SqL.of upd_same, ?_, ?_, fun r v H7 hv b7 f7 => ?_⟩⟩
      · rw [List.length_map]
        decide +kernel
      · rw [List.length_map]
        decide +kernel
      · rw [List.getElem?_map] at hv
        cases hc : sAbc.cps.toList[r]? with
        | none => rw [hc] at hv; cases hv
        | some c =>
          rw [hc] at hv
          obtain rfl : V.str ⟨#[c]⟩ = v := Option.some.inj hv
          refine ⟨z, ⟨#[c]⟩, rfl, rfl, ?_, _, z ++ ⟨#[c]⟩, rfl, (b5.new (b5.free f5 hq)).trans b7, f7, ?_, ?_⟩
          · rw [hz, sizeLine_eq]
            show i + 1 ≤ _
            omega
          · rw [Str.length_append, hz]
            rfl
          · intro d hd
            have hd' : d ∈ z.cps.toList ++ [c] := by
              have e : (z ++ (⟨#[c]⟩ : Str)).cps.toList = z.cps.toList ++ [c] := by
                show (z.cps ++ #[c]).toList = _
                simp
              rw [← e]
              exact hd
            rcases List.mem_append.mp hd' with h | h
            · exact hlow d h
            · rw [List.mem_singleton.mp h]
              exact abc_low c (List.mem_of_getElem? hc)
    · rintro σ H5 ⟨v2, z, rfl, b5, f5, hz, hlow⟩
      exact ⟨_, rfl, k z H5 b5 f5 (name_of_low hlow (by omega) (by omega))⟩
end
end Vf

set_option maxRecDepth 100000
set_option maxHeartbeats 4000000
namespace Vf
open PySem PySem.Spec PyProof.Rows L2
/-- what is met, once each -/
def dd1 (l : List Str) (z : Str) : List Str := if z ∈ l then l else z :: l
def dd (ws : List Str) : List Str := ws.foldl dd1 []
theorem dd_snoc (ws : List Str) (z : Str) : dd (ws ++ [z]) = dd1 (dd ws) z := by
  unfold dd
  rw [List.foldl_append]
  rfl
theorem dd_go : ∀ (ws l : List Str), l.Nodup → (ws.foldl dd1 l).Nodup ∧ (∀ z, z ∈ ws.foldl dd1 l ↔ z ∈ l ∨ z ∈ ws) ∧ (ws.foldl dd1 l).length ≤ l.length + ws.length
  | [], l, h => ⟨h, fun z => by simp, by simp⟩
  | x :: ws, l, h => by
    rw [List.foldl_cons]
    by_cases hx : x ∈ l
    · have e : dd1 l x = l := if_pos hx
      rw [e]
      obtain ⟨h1, h2, h3⟩ := dd_go ws l h
      refine ⟨h1, fun z => ?_, by rw [List.length_cons]; omega⟩
      rw [h2, List.mem_cons]
      constructor
      · rintro (q | q)
        · exact .inl q
        · exact .inr (.inr q)
      · rintro (q | rfl | q)
        · exact .inl q
        · exact .inl hx
        · exact .inr q
    · have e : dd1 l x = x :: l := if_neg hx
      rw [e]
      obtain ⟨h1, h2, h3⟩ := dd_go ws (x :: l) (List.nodup_cons.mpr ⟨hx, h⟩)
      refine ⟨h1, fun z => ?_, by rw [List.length_cons] at h3 ⊢; omega⟩
      rw [h2, List.mem_cons, List.mem_cons]
      constructor
      · rintro ((q | q) | q)
        · exact .inr (.inl q)
        · exact .inl q
        · exact .inr (.inr q)
      · rintro (q | q | q)
        · exact .inl (.inr q)
        · exact .inl (.inl q)
        · exact .inr q
theorem dd_nodup (ws : List Str) : (dd ws).Nodup := (dd_go ws [] List.nodup_nil).1
theorem dd_mem (ws : List Str) (z : Str) : z ∈ dd ws ↔ z ∈ ws := by
  have := (dd_go ws [] List.nodup_nil).2.1 z
  unfold dd
  rw [this]
  simp
theorem dd_len (ws : List Str) : (dd ws).length ≤ ws.length := by
  have := (dd_go ws [] List.nodup_nil).2.2
  unfold dd
  simpa using this
/-- a set that holds the texts l -/
def SetRS (P : Program) (w : World) (h : Heap) (a : Addr) (l : List Str) : Prop := ∃ D, h.get? a = some (Froz.sObj "set" D) ∧ Froz.TxOk P w D l ∧ Ris D.2.2.place.toList ∧ (w.params.followText "set-order" = true ∨ D.2.2.led = true)
theorem SetRS.at {P : Program} {w : World} {h h' : Heap} {a : Addr} {l : List Str} (R : SetRS P w h a l) (k : ∀ o, h.get? a = some o → h'.get? a = some o) : SetRS P w h' a l := by
  obtain ⟨D, ho, r⟩ := R
  exact ⟨D, k _ ho, r⟩
theorem tail_ris {ep : Nat} {es1 : Array (Int × Value)} {t2 : SetTable} {d : Bool} (r : Ris t2.place.toList) : Ris (Froz.tailTx ep es1 t2 d).2.2.place.toList ∧ (Froz.tailTx ep es1 t2 d).2.2.led = t2.led := by
  unfold Froz.tailTx
  split
  · exact ⟨relayAll_ris _ _ _, relayAll_led _ _ _⟩
  · exact ⟨r, rfl⟩
theorem add_ris {D : Froz.SD} {h : Int} {v : Value} (r : Ris D.2.2.place.toList) : Ris (Froz.addTx h v D).2.2.place.toList ∧ (Froz.addTx h v D).2.2.led = D.2.2.led := by
  unfold Froz.addTx
  have r1 := layNew_ris D.2.2 D.1 h v r
  have l1 := layNew_led D.2.2 D.1 h v
  split
  · obtain ⟨a, b⟩ := tail_ris (ep := D.2.1) (es1 := (layNew D.2.2 D.1 h v).1) (d := (layNew D.2.2 D.1 h v).2.2.1) (t2 := { (layNew D.2.2 D.1 h v).2.1 with plain := false }) r1
    exact ⟨a, b.trans l1⟩
  · obtain ⟨a, b⟩ := tail_ris (ep := D.2.1) (es1 := (layNew D.2.2 D.1 h v).1) (d := (layNew D.2.2 D.1 h v).2.2.1) r1
    exact ⟨a, b.trans l1⟩
section
variable {P : Program} {w : World} {A : Around} {E : Value → Shared → Prop} {s : Shared}
/-- a text that is there already -/
theorem add_y {a : Addr} {D : Froz.SD} {l : List Str} {k : Str} {u : Tok} {Q : Bool → Shared → Prop} (ho : s.heap.get? a = some (Froz.sObj "set" D)) (F : Froz.TxOk P w D l) (hk : k ∈ l) (hb : l.length < scanBound)
    (h : Q false s) : wpAny (model P w) A (setAddHashed a (.str k u) (hashStr w k)) Q E s := by
  obtain ⟨es, ep, t⟩ := D
  have hd : (Froz.sObj "set" (es, ep, t)).data = .set es ep t := rfl
  have hf : t.fits es.size = true := F.fit
  have hel : ElemsOf (strKind P w) es.toList := F.el
  have hsz : es.size = l.length := F.sz
  have hb0 : es.size < scanBound := by omega
  have hkey : (strKind P w).is k (.str k u) = true := Froz.is_str k u
  unfold setAddHashed setAddHashedIn
  refine wpAny_holding (wpAny_bind (wpAny_setState_of ho hd hf ?_))
  dsimp only
  rw [byScan_of rfl hb0 hel]
  simp only [↓reduceIte]
  unfold setAddByScan
  refine wpAny_bind ?_
  refine wpAny_bind (wpAny_rule ?_)
  refine wpAny_bind (wpAny_setScan_of (knd := strKind P w) (k := k) hkey ho hd hf hel ?_)
  cases hr : List.findIdx? (fun e => (strKind P w).is k e.2) es.toList with
  | some j =>
    dsimp only
    exact wpAny_pure (wpAny_pure h)
  | none =>
    obtain ⟨e, he, hp⟩ := (F.mem k).mp hk
    have := List.findIdx?_eq_none_iff.mp hr e he
    rw [hp] at this
    cases this
theorem set_update_strs {I : Addr} {fp wr : List Addr} {G : Array GenState → Array GenState → Prop} {n : Nat} {Pv : Nat → Value → Prop} {St : Nat → Shared → Prop} {R : Result → Shared → Prop}
    (W : WalksS P w A.in1 I fp wr G n Pv St) (S : Addr) (hSf : S ∉ fp) (ws : List Str) (hn : n = ws.length) (hb : ws.length + 1 < scanBound) (hval : ∀ i v, Pv i v → ∃ z t, ws[i]? = some z ∧ v = .str z t) :
    ∀ (k i : Nat) (s : Shared), n - i = k → i ≤ n → St i s → SetRS P w s.heap S (dd (ws.take i)) →
      (∀ s', Moved (S :: wr) G s s' → SetRS P w s'.heap S (dd ws) → R (.ok (.ret .none)) s') →
      codeAny (model P w) A (.builtin "set.update.loop" ⟨[.ref S, .ref I], []⟩) R s := by
  have hSw : S ∉ wr := fun h => hSf (W.sub _ h)
  have hsub : ∀ b ∈ wr, b ∈ S :: wr := fun b hb => List.mem_cons_of_mem _ hb
  intro k
  induction k with
  | zero =>
    intro i s hk hi hst hS hR
    have hin : i = n := by omega
    subst hin
    refine codeAny_builtin F.entry_set_update_loop ?_
    rw [Around.under_plainId F.plain_set_update_loop _]
    show wpAny _ A.in1 (pyNext (.ref I) >>= _) _ _ s
    refine wpAny_bind (W.done s _ _ hst fun s' hm => ?_)
    show wpAny _ A.in1 (ret Value.none) _ _ s'
    refine wpAny_pure (hR s' (hm.mono hsub) ?_)
    rw [hn, List.take_length] at hS
    exact hS.at fun o e => hm.heap S _ hSw e
  | succ k ih =>
    intro i s hk hi hst hS hR
    have hlt : i < n := by omega
    refine codeAny_builtin F.entry_set_update_loop ?_
    rw [Around.under_plainId F.plain_set_update_loop _]
    show wpAny _ A.in1 (pyNext (.ref I) >>= _) _ _ s
    refine wpAny_bind (W.item i s _ _ hlt hst fun v s' hP hst' hm => ?_)
    obtain ⟨z, t, hz, rfl⟩ := hval i v hP
    obtain ⟨D, ho, FF, r, ld⟩ : SetRS P w s'.heap S (dd (ws.take i)) := hS.at fun o e => hm.heap S _ hSw e
    have hlen : (dd (ws.take i)).length ≤ i := Nat.le_trans (dd_len _) (by rw [List.length_take]; omega)
    have hdd : dd (ws.take (i + 1)) = dd1 (dd (ws.take i)) z := by
      rw [List.take_add_one, hz, Option.toList_some, dd_snoc]
    show wpAny _ A.in1 (holding [Value.str z t] (setAdd S (.str z t)) >>= _) _ _ s'
    refine wpAny_bind (wpAny_holding ?_)
    unfold setAdd
    refine wpAny_holding ?_
    refine wpAny_bind ((strKind P w).pyHash (k := z) (Froz.is_str z t) ?_)
    by_cases hin : z ∈ dd (ws.take i)
    · refine add_y (s := { s' with toks := s'.toks + 1 }) ho FF hin (by omega) ?_
      refine wpAny_pure ⟨plainId_quiet F.plain_set_update_loop _, ih (i + 1) _ (by omega) hlt (W.frame _ s' _ _ hst' (Nat.le_succ _) fun b hb o e => e) ?_ fun s'' hm'' hS'' => ?_⟩
      · rw [hdd, show dd1 (dd (ws.take i)) z = _ from if_pos hin]
        exact ⟨D, ho, FF, r, ld⟩
      · exact hR s'' (Moved.trans W.gtrans ((hm.mono hsub).then_heap (Nat.le_succ _) fun b o hb e => e) hm'') hS''
    · refine Froz.add_x (s := { s' with toks := s'.toks + 1 }) ho FF hin (by omega) ?_
      have oth : ∀ b o, b ≠ S → s'.heap.get? b = some o → (s'.heap.update S (fun _ => Froz.sObj "set" (Froz.addTx (hashStr w z) (.str z t) D))).get? b = some o := fun b o hb e => (Heap.get?_update_other _ _ (Ne.symm hb)).trans e
      refine wpAny_pure ⟨plainId_quiet F.plain_set_update_loop _, ih (i + 1) _ (by omega) hlt (W.frame _ s' _ _ hst' (Nat.le_succ _) fun b hb o e => oth b o (fun h : b = S => hSf (by rw [← h]; exact hb)) e) ?_ fun s'' hm'' hS'' => ?_⟩
      · rw [hdd, show dd1 (dd (ws.take i)) z = _ from if_neg hin]
        obtain ⟨r2, l2⟩ := add_ris (h := hashStr w z) (v := .str z t) r
        exact ⟨_, Froz.get_upd _ ho rfl, Froz.add_ok t FF, r2, by rw [l2]; exact ld⟩
      · exact hR s'' (Moved.trans W.gtrans ((hm.mono hsub).then_heap (Nat.le_succ _) fun b o hb e => oth b o (fun h : b = S => hb (by rw [h]; exact List.mem_cons_self)) e) hm'') hS''
theorem strs_ix : ∀ {us : List Value} {xs : List Str}, StrsAre us xs → ∀ (i : Nat) (v : Value), us[i]? = some v → ∃ t, v = .str (xs.getD i Str.empty) t
  | _, _, .nil, i, v, h => by simp at h
  | _, _, .cons n t hr, 0, v, h => by
    have e := Option.some.inj h
    exact ⟨t, e.symm⟩
  | _, _, .cons n t hr, i + 1, v, h => strs_ix hr i v h
theorem set_init_listS {l S : Addr} {items : Array Value} {h0 : Heap} (ns : List Str) (hh : A.handled = none) (h0S : S = s.heap.objs.size) (hl : s.heap.IsList l items)
    (hit : StrsAre items.toList ns) (hb : ns.length + 1 < scanBound) (e0 : h0 = s.heap.push (emptySet w)) {R : Result → Shared → Prop}
    (h : ∀ h' tk, SetRS P w h' S (dd ns) → (∀ b o, s.heap.get? b = some o → h'.get? b = some o) →
      R (.ok (.ret .none)) { s with heap := h', toks := tk }) :
    codeAny (model P w) A (.call (.builtin "set.__init__") ⟨[.ref S, .ref l], []⟩) R { s with heap := h0 } := by
  subst h0S e0
  have hS : (s.heap.push (emptySet w)).get? s.heap.objs.size = some (emptySet w) := Heap.get?_push_size _ rfl
  have hT : Shared.TypeIs { s with heap := s.heap.push (emptySet w) } (.ref s.heap.objs.size) "set" := ⟨_, hS, rfl⟩
  refine codeAny_call_builtin F.called_set.init.plain F.entry_set_init (check_set_init_1 hT ?_)
  have hisz : items.size = ns.length := by
    have q := StrsAre.length hit
    rwa [Array.length_toList] at q
  obtain ⟨ol, hol, hcl, nl, hdl⟩ := hl
  obtain ⟨ocls, odict, odata, oslots⟩ := ol
  dsimp only at hcl hdl
  subst hcl hdl
  have hol' : (s.heap.push (emptySet w)).get? l = some { cls := .type "list", dict := odict, data := .seq items nl, slots := oslots } :=
    Heap.get?_push_of_some _ hol
  have hsls := F.sub_list_set
  have hslf := F.sub_list_frozenset
  have hne : (Value.type "list" == Value.type "dict") = false := by decide
  have hl1 : (s.heap.push (emptySet w)).IsList l items := ⟨_, hol', rfl, nl, rfl⟩
  unfold Builtin.«set.__init__» noKeywords Builtin.Frozenset.updateFrom
  generalize hPI : pyIter = PI
  wp_walk
  subst hPI
  refine wpAny_pyIter_list hl1 (wpAny_bind (wpAny_runValue ?_))
  have hlS : l < s.heap.objs.size := Heap.lt_size hol
  have hh3 : A.in1.in1.handled = none := hh
  have hsz : (s.heap.push (emptySet w)).objs.size = s.heap.objs.size + 1 := Heap.size_push ..
  have hlt : ∀ b : Addr, b < s.heap.objs.size → b ∉ [s.heap.objs.size, s.heap.objs.size + 1] := fun b hb hm => by
    rcases List.mem_cons.mp hm with e | e
    · exact Nat.lt_irrefl _ (e ▸ hb)
    · exact Nat.lt_irrefl _ (Nat.lt_succ_of_lt (List.mem_singleton.mp e ▸ hb))
  have hneI : l ≠ (s.heap.push (emptySet w)).objs.size := by rw [hsz]; exact Nat.ne_of_lt (Nat.lt_succ_of_lt hlS)
  have hSf : s.heap.objs.size ∉ [(s.heap.push (emptySet w)).objs.size, l] := by
    rw [hsz]
    simp only [List.mem_cons, List.not_mem_nil, or_false, not_or]
    exact ⟨Nat.ne_of_lt (Nat.lt_succ_self _), Nat.ne_of_gt hlS⟩
  have hcur : (s.heap.push (emptySet w)).IsList l items := hl1
  have hval : ∀ (i : Nat) (v : Value), items[i]? = some v → ∃ k t, ns[i]? = some k ∧ v = .str k t := fun i v hv => by
    have hi : i < items.size := (Array.getElem?_eq_some_iff.mp hv).1
    obtain ⟨t, ht⟩ := strs_ix hit i v (by rw [Array.getElem?_toList]; exact hv)
    have hi2 : i < ns.length := by omega
    refine ⟨ns[i], t, List.getElem?_eq_getElem hi2, ?_⟩
    rw [ht, List.getD_eq_getElem?_getD, List.getElem?_eq_getElem hi2]
    rfl
  refine set_update_strs ((Walks.list hh3 _ l hneI items).toS) s.heap.objs.size hSf ns hisz hb hval (items.size - 0) 0 _ (by omega) (Nat.zero_le _)
    ?hSt ?hS0 ?hR
  case hSt => exact ⟨⟨_, Heap.get?_push_size _ rfl, rfl, rfl⟩, (hl1.push _)⟩
  case hS0 =>
    refine ⟨(#[], 0, .fresh 0 0 (!w.params.followText "set-order")), Heap.get?_push_of_some _ hS, Froz.TxOk.nil (by rfl), List.Pairwise.nil, ?_⟩
    show _ ∨ (!w.params.followText "set-order") = true
    cases w.params.followText "set-order"
    · exact .inr rfl
    · exact .inl rfl
  case hR =>
    rintro ⟨h', g2, d', tk', os'⟩ hm hR
    obtain rfl : g2 = s.gens := hm.gens
    obtain rfl : d' = s.drawn := hm.drawn
    obtain rfl : os' = s.os := hm.os
    refine wpAny_pure (wpAny_pure (h h' tk' hR fun b o e => ?_))
    refine hm.heap b o ?_ (Heap.get?_push_of_some _ (Heap.get?_push_of_some _ e))
    rw [hsz]
    exact hlt b (Heap.lt_size e)
theorem call_set_listS {l : Addr} {items : Array Value} (ns : List Str) {Q : Value → Shared → Prop} (hh : A.handled = none) (hl : s.heap.IsList l items)
    (hit : StrsAre items.toList ns) (hb : ns.length + 1 < scanBound)
    (h : ∀ h' tk, SetRS P w h' s.heap.objs.size (dd ns) → (∀ b o, s.heap.get? b = some o → h'.get? b = some o) →
      Q (.ref s.heap.objs.size) { s with heap := h', toks := tk }) :
    wpAny (model P w) A (call (.type "set") [.ref l]) Q E s := by
  have hT : Shared.TypeIs { s with heap := s.heap.push (emptySet w) } (.ref s.heap.objs.size) "set" := ⟨_, Heap.get?_push_size _ rfl, rfl⟩
  obtain ⟨c, tl, hmro⟩ := F.called_set.mro; have hmade := F.called_set.made; have hsub := F.called_set.sub
  have h1 := F.called_set.notType; have h2 := F.called_set.canCreate; have hct := F.typeCall_set_1 (.ref l)
  have hli := F.called_set.init.lookup; have hbi := F.called_set.init.bind (.ref s.heap.objs.size)
  refine wpAny_call (codeAny_of_tree (show wpAny _ _ (callAny (.type "set") _) _ _ _ from
    wpAny_pure ⟨Code.quiet_builtin _ (by decide +kernel), codeAny_builtin F.entry_type_call ?_⟩))
  rw [Around.under_plain (weight_type_call_type "set" [.ref l] []) rfl]
  repeat (any_goals (first | assumption | wp_step))
  refine codeAny_mono (code_set_led1 (.ref l) (E := E) (Q₁ := fun obj s₁ => obj = .ref s.heap.objs.size ∧ s₁ = { s with heap := s.heap.push (emptySet w) }) ⟨rfl, rfl⟩) ?_
  rintro (e | (_ | _ | _ | obj)) s₁ hr
  · exact hr
  · exact hr.elim
  · exact hr.elim
  · exact hr.elim
  obtain ⟨rfl, rfl⟩ := hr
  repeat (any_goals (first | assumption | wp_step))
  refine codeAny_mono (set_init_listS (s := s) (R := wants (fun r s₂ => r = .none ∧ Q (.ref s.heap.objs.size) s₂) E) ns (by exact hh) rfl hl hit hb rfl
    fun h' tk hR hk => ⟨rfl, h h' tk hR hk⟩) ?_
  rintro (e | (_ | _ | _ | r)) s₂ hr
  · exact hr
  · exact hr.elim
  · exact hr.elim
  · exact hr.elim
  obtain ⟨rfl, hq⟩ := hr
  repeat (any_goals (first | assumption | wp_step))
end
/-- the set at p holds the texts l -/
def SetSO (P : Program) (w : World) (a : Addr) (l : List Str) : HO := .ext fun h => SetRS P w h a l
def rSetS (K : PySem.W.Frag) (P : Program) (w : World) : List V → Hp → VK → Prop := fun vs H Q => ∃ (a : Addr) (ws : List Str), vs = [.ref a] ∧ SqL K H a (ws.map V.str) ∧ ws.length + 1 < scanBound ∧ ∀ p : Addr, H p = none → Q (.ref p) (upd H p (SetSO P w p (dd ws)))
theorem cr_setS {X : Cx} (hc : X.calm = true) : CallR X (.type "set") (rSetS X.K X.prog X.w) := by
  intro pins s σ H vs us Q I r h
  obtain ⟨a, ws, rfl, hS, hb, q⟩ := h
  obtain ⟨its, rv, pl, hz⟩ := I.list hS
  rw [Vals.ref1 r]
  refine call_set_listS ws (I.ok.hd hc) pl.isList (by simpa using rv.strs) hb fun h' tk R k => ?_
  refine ⟨.ref _, _, I.laid (t' := tk) k (Nat.le_refl _) (show ObjOk X.prog X.w _ _ _ (SetSO X.prog X.w s.heap.objs.size (dd ws)) from ⟨R, ?_, fun h1 h2 p k => SetRS.at p k⟩), rfl, q _ (I.hok.fresh (Nat.le_refl _))⟩
  obtain ⟨D, ho, _⟩ := R
  exact ⟨_, ho⟩
def rSortedSS (P : Program) (w : World) : List V → Hp → VK → Prop := fun vs H Q => ∃ (a : Addr) (l : List Str), vs = [.ref a] ∧ H a = some (SetSO P w a l) ∧ l.Nodup ∧ l.length < 64 ∧ ∀ p : Addr, H p = none → Q (.ref p) (upd H p (.lst ((srt l).map V.str)))
theorem strs_of_vals : ∀ (vs : List Value), (∀ v ∈ vs, ∃ k t, v = Value.str k t) → ∃ ks, StrsAre vs ks ∧ ∀ k ∈ ks, ∃ t, Value.str k t ∈ vs
  | [], _ => ⟨[], .nil, fun _ h => nomatch h⟩
  | v :: vs, h => by
    obtain ⟨k, t, rfl⟩ := h v List.mem_cons_self
    obtain ⟨ks, h1, h2⟩ := strs_of_vals vs fun u hu => h u (List.mem_cons_of_mem _ hu)
    refine ⟨k :: ks, .cons k t h1, fun z hz => ?_⟩
    rcases List.mem_cons.mp hz with rfl | hz
    · exact ⟨t, List.mem_cons_self⟩
    · obtain ⟨u, hu⟩ := h2 z hz
      exact ⟨u, List.mem_cons_of_mem _ hu⟩
theorem mem_strs : ∀ {vs : List Value} {ks : List Str}, StrsAre vs ks → ∀ {k : Str} {t : Tok}, Value.str k t ∈ vs → k ∈ ks
  | _, _, .nil, _, _, h => by cases h
  | _, _, .cons n u hr, k, t, h => by
    rcases List.mem_cons.mp h with e | h
    · cases e
      exact List.mem_cons_self
    · exact List.mem_cons_of_mem _ (mem_strs hr h)
theorem perm_of : ∀ {l m : List Str}, l.Nodup → m.length = l.length → (∀ z ∈ l, z ∈ m) → m.Perm l
  | [], m, _, hl, _ => by rw [List.length_eq_zero_iff.mp hl]
  | a :: r, m, nd, hl, h => by
    have hm := h a List.mem_cons_self
    have nd' := List.nodup_cons.mp nd
    have e := List.length_erase_of_mem hm
    rw [List.length_cons] at hl
    have ih := perm_of (l := r) (m := m.erase a) nd'.2 (by omega) fun z hz => (List.mem_erase_of_ne fun q : z = a => nd'.1 (by rw [← q]; exact hz)).mpr (h z (List.mem_cons_of_mem _ hz))
    exact (List.perm_cons_erase hm).trans (ih.cons a)
theorem cr_sortedSS {X : Cx} (hc : X.calm = true) : CallR X (.builtin "sorted") (rSortedSS X.prog X.w) := by
  intro pins s σ H vs us Q I r h
  obtain ⟨a, l, rfl, ha, nd, h64, q⟩ := h
  obtain ⟨⟨es, ep, t⟩, ho, FF, rs, ld⟩ : SetRS X.prog X.w s.heap a l := (I.hok a _ ha).1
  rw [Vals.ref1 r]
  have hsz : es.size = l.length := FF.sz
  have hb : es.size < scanBound := by
    have : 64 ≤ scanBound := by decide
    omega
  refine Calls.call_function_entry kind_sorted plain_sorted entry_sorted (args_sorted1 _) ?_
  unfold Builtin.«sorted»
  refine wpAny_bind (m := checkCount "sorted" 1 1 _) (wpAny_pure ?_)
  refine wpAny_bind (collect_set (A := X.A.in1) (I.ok.hd hc) ⟨_, ho, rfl, rfl⟩ FF.fit hb rs ld fun s1 out k1 hz g1 o1 pm => ?_)
  have hol : out.length = l.length := by rw [pm.length_eq, List.length_map, Array.length_toList, hsz]
  obtain ⟨ks, hk1, hk2⟩ := strs_of_vals out fun v hv => by
    obtain ⟨e, he, rfl⟩ := List.mem_map.mp (pm.mem_iff.mp hv)
    obtain ⟨⟨k, hk, _⟩, _⟩ := FF.el e he
    obtain ⟨tk, e1⟩ := Value.isStrOf_shape (x := k) (v := e.2) hk
    exact ⟨k, tk, e1⟩
  have pk : ks.Perm l := perm_of nd (by rw [← hk1.length, hol]) fun z hz => by
    obtain ⟨e, he, hp⟩ := (FF.mem z).mp hz
    obtain ⟨tk, e1⟩ := Value.isStrOf_shape (x := z) (v := e.2) hp
    exact mem_strs hk1 (t := tk) (pm.mem_iff.mpr (List.mem_map.mpr ⟨e, he, e1⟩))
  refine wpAny_bind (wpAny_newList ?_ (by rw [hol, sizeLine_eq]; omega))
  have hoL : (s1.heap.push (seqObj "list" out.toArray 0)).get? s1.heap.objs.size = some (seqObj "list" out.toArray 0) := Heap.get?_push_size _ rfl
  refine wpAny_bind (wpAny_holding (wpAny_call_entry slot_list_sort ⟨_, hoL, rfl⟩ entry_list_sort
    (list_sort_treeK strKind_oneLt hoL hk1.keysOf (fun v₁ v₂ rest e => keyKind_strs (by rw [← e]; exact hk1)) (by rw [hol]; exact h64) fun st' hp hs => ⟨_, rfl, ?_⟩) (args_list_sort _)))
  obtain ⟨ys, g2, g3, g4⟩ := sorted_out_str hk1 hp hs
  obtain ⟨c, hc'⟩ := sortedHeap_at (vs := out) (out := (arrOf st').map (·.2)) hoL
  have ey : ys = srt l := srt_of (g3.trans pk) g4
  subst ey
  have hlen : ((srt l).map V.str).length ≤ sizeLine := by rw [List.length_map, (srt_perm l).length_eq, sizeLine_eq]; omega
  have keep : ∀ b o, s.heap.get? b = some o → (sortedHeap (s1.heap.push (seqObj "list" out.toArray 0)) s1.heap.objs.size out ((arrOf st').map (·.2))).get? b = some o := fun b u e => by
    have q := k1 b u e
    have hlt := Heap.lt_size q
    rw [sortedHeap_old (Nat.ne_of_lt hlt) (by rw [size_push']; exact Nat.lt_succ_of_lt hlt)]
    exact Heap.get?_push_of_some _ q
  have hn : H s1.heap.objs.size = none := I.hok.fresh hz
  have J : Inv X pins σ (upd H s1.heap.objs.size (.lst ((srt l).map V.str))) { s with heap := sortedHeap (s1.heap.push (seqObj "list" out.toArray 0)) s1.heap.objs.size out ((arrOf st').map (·.2)), gens := s1.gens, drawn := s1.drawn, toks := s1.toks } :=
    I.call (ch := []) (Un.laid keep hz hn) (I.hok.laid keep hz ⟨hlen, ((arrOf st').map (·.2)).toList, c, vals_of_strs g2, by rw [Array.toArray_toList]; exact hc'⟩) (by rw [g1]; exact I.bare) (fun _ z => nomatch z)
  have e : ({ s1 with heap := sortedHeap (s1.heap.push (seqObj "list" out.toArray 0)) s1.heap.objs.size out ((arrOf st').map (·.2)) } : Shared) = { s with heap := sortedHeap (s1.heap.push (seqObj "list" out.toArray 0)) s1.heap.objs.size out ((arrOf st').map (·.2)), gens := s1.gens, drawn := s1.drawn, toks := s1.toks } := by
    cases s1
    cases s
    cases o1
    rfl
  refine wpAny_pure ⟨_, rfl, .ref s1.heap.objs.size, _, ?_, rfl, q _ hn⟩
  rw [← e] at J
  exact J
end Vf

set_option maxRecDepth 100000
set_option maxHeartbeats 4000000
namespace Vf
open PySem PySem.Spec PyProof.Rows L2
def stepped (k : Int) (xs : List V) : List V := if k = 1 then xs else xs.reverse
def tStepL (K : PySem.W.Frag) (te : TE) (ts : TO) : TE := fun σ H Q => te σ H fun x H1 => ts σ H1 fun o H2 => ∃ (a : Addr) (xs : List V) (k : Int), x = .ref a ∧ SqL K H2 a xs ∧ o = some k ∧ (k = 1 ∨ k = -1) ∧
  ∀ p, H2 p = none → Q (.ref p) (upd H2 p (.lst (stepped k xs)))
theorem cut_all (xs : List V) : cutV xs none none = xs := by
  unfold cutV
  rw [HT.sIx_none, HT.sIx_none, List.drop_zero, Nat.sub_zero, List.take_length]
theorem pe_stepL {X : Cx} {e st : Expr} {te : TE} {ts : TO} {p3 pos : Pos} (he : PE X e te) (hst : PO X (some st) ts)
    (htl : ∀ a i, subscripted (.Slice none none (some st) p3) false (.ref a) (.ref i) = operate [.ref a, .ref i] (getItem (.ref a) (.ref i)) := by intro _ _; with_unfolding_all rfl) :
    PE X (.Subscript e (.Slice none none (some st) p3) pos) (tStepL X.K te ts) := by
  refine ⟨fun pins s σ H Q I h => Subscript_ (thn (he.run pins s σ H _ I h) ?_)⟩
  rintro v s1 ⟨x, H1, I1, r1, q1⟩
  refine wpAny_Slice (thn (po_none.run pins s1 σ H1 (fun o H2 => o = none ∧ H2 = H1) I1 ⟨rfl, rfl⟩) ?_)
  rintro vl s2 ⟨l, H2, I2, pl, rfl, rfl⟩
  refine thn (po_none.run pins s2 σ H2 (fun o H3 => o = none ∧ H3 = H2) I2 ⟨rfl, rfl⟩) ?_
  rintro vu s3 ⟨u, H3, I3, pu, rfl, rfl⟩
  refine thn (hst.run pins s3 σ H3 _ I3 q1) ?_
  rintro vs s4 ⟨o, H4, I4, ps, a, xs, k, rfl, hx, rfl, hk, q⟩
  cases r1
  have I5 : Inv X pins σ H4 { s4 with heap := s4.heap.push { cls := .type "slice", data := .fields #[vl, vu, vs] } } := I4.kept (t' := s4.toks) fun b ob q => Heap.get?_push_of_some _ q
  obtain ⟨its, r, ht, hz⟩ := I5.list hx
  have hlen := r.length
  show wpAny (model X.prog X.w) X.A (subscriptTail e (.Slice none none (some st) p3) (.ref a) (.ref s4.heap.objs.size)) (EP X pins σ Q) X.xe { s4 with heap := s4.heap.push { cls := .type "slice", data := .fields #[vl, vu, vs] } }
  refine tail_any (ops := [.ref a, .ref s4.heap.objs.size]) ht.isList.typeIs PySem.slot_list_getitem.lookup ?_ (htl _ _)
  refine wpAny_getItem_list_slice ht.isList (Heap.IsSliceOf.new _ vl vu vs) pl pu ps (by rcases hk with rfl | rfl <;> decide) ?_ (by rw [List.size_toArray]; omega)
  rcases hk with rfl | rfl
  · have e1 : slicePick its.toArray none none (some 1) = slicePick its.toArray none none none := rfl
    have e2 := cut_all xs
    rw [e1, slicePick_cut, ← hlen]
    refine ⟨.ref _, _, I5.laid (t' := s4.toks) (o := .lst (stepped 1 xs)) (fun b ob q => Heap.get?_push_of_some _ q) (Nat.le_refl _) ?_, rfl, q _ (I5.hok.fresh (Nat.le_refl _))⟩
    have r' := (r.drop (HT.sIx xs.length 0 none)).take (HT.sIx xs.length xs.length none - HT.sIx xs.length 0 none)
    rw [show (xs.drop (HT.sIx xs.length 0 none)).take (HT.sIx xs.length xs.length none - HT.sIx xs.length 0 none) = xs from cut_all xs] at r'
    refine ⟨hz, _, 0, ?_, Heap.get?_push_size _ rfl⟩
    exact r'
  · rw [PySem.W.krv_pick]
    refine ⟨.ref _, _, I5.laid (t' := s4.toks) (o := .lst (stepped (-1) xs)) (fun b ob q => Heap.get?_push_of_some _ q) (Nat.le_refl _) ?_, rfl, q _ (I5.hok.fresh (Nat.le_refl _))⟩
    exact ⟨(by show xs.reverse.length ≤ _; rw [List.length_reverse]; exact hz), _, 0, r.reverse, Heap.get?_push_size _ rfl⟩
end Vf

set_option maxRecDepth 100000
set_option maxHeartbeats 8000000
namespace Vf
open PySem PySem.Spec PyProof.Rows L2
section
variable {J : It} {n : Nat} {G : Hp → Prop} {Y : Nat → Hp → V → Hp → Prop}
/-- [.. for .. in ..] whose turns draw -/
theorem lc_feed {α : Type} (l : List α) (w : Walk J l.length G Y) {g : TG} {te : TE} {vs : List Nat} {σ : L2.St} {H1 : Hp} {D p : Addr} {Qd : Hp → Prop} (hD : H1 D = none) (f1 : FeedAt H1 p) (Pr : α → V → Hp → Prop) (hn : l.length < 1000000) (hG : ∀ H, But p H1 H → G H)
    (hs : ∀ i a x H H', l[i]? = some a → But p H1 H → FeedAt H p → (∃ acc, H D = some (.lst acc)) → Y i H x H' → ∀ R : V → Hp → Prop, (∀ v H4, But p H H4 → FeedAt H4 p → (∀ H5, (∀ b o, b ≠ p → b ≠ D → H4 b = some o → H5 b = some o) → Pr a v H5) → R v H4) →
      g x (wipe σ vs) H' fun σ2 H2 => wipe σ2 vs = wipe σ vs ∧ te σ2 H2 R)
    (hd : ∀ H (xs : List V), But p H1 H → FeedAt H p → H D = some (.lst xs) → xs.length = l.length → (∀ (i : Nat) (a : α) (v : V), l[i]? = some a → xs[i]? = some v → Pr a v H) → Qd H) :
    ∃ W : Nat → Nat → Hp → Prop, (∃ m, W 0 m (upd H1 D (.lst []))) ∧ ∀ i m H, W i m H →
      (J.stop i H ∧ Qd H) ∨ (J.go i H ∧ ∃ Nx : Hp → Prop, (∀ H', Nx H' → ∃ m', m' < m ∧ W (i + 1) m' H') ∧ ∀ x H', J.yld i H x H' → g x (wipe σ vs) H' fun σ2 H2 => wipe σ2 vs = wipe σ vs ∧ tYes σ2 H2 fun b H3 =>
        if b = true then te σ2 H3 fun y H4 => ∃ acc, H4 D = some (.lst acc) ∧ acc.length < sizeLine ∧ Nx (upd H4 D (.lst (acc ++ [y]))) else Nx H3) := by
  have hpD : p ≠ D := f1.ne hD
  refine ⟨fun i m H => m = l.length - i ∧ i ≤ l.length ∧ But p H1 H ∧ FeedAt H p ∧ ∃ xs : List V, H D = some (.lst xs) ∧ xs.length = i ∧ ∀ (j : Nat) (a : α) (v : V), l[j]? = some a → xs[j]? = some v → ∀ H5, (∀ b o, b ≠ p → b ≠ D → H b = some o → H5 b = some o) → Pr a v H5, ⟨l.length, by simp, Nat.zero_le _, (But.refl p H1).new hD, f1.put hpD, [], upd_same, rfl, fun j a v _ h => by simp at h⟩, ?_⟩
  rintro i m H ⟨rfl, hi, s, f, xs, hH, hxs, hp⟩
  by_cases hlt : i < l.length
  · have ha : l[i]? = some l[i] := List.getElem?_eq_getElem hlt
    refine .inr ⟨w.goes i H hlt (hG H s), fun H' => But p H1 H' ∧ FeedAt H' p ∧ ∃ xs : List V, H' D = some (.lst xs) ∧ xs.length = i + 1 ∧ ∀ (j : Nat) (a : α) (v : V), l[j]? = some a → xs[j]? = some v → ∀ H5, (∀ b o, b ≠ p → b ≠ D → H' b = some o → H5 b = some o) → Pr a v H5, fun H' q => ⟨l.length - (i + 1), by omega, rfl, hlt, q⟩, fun x H' y => ?_⟩
    have q := hs i _ x H H' ha s f ⟨xs, hH⟩ (w.yields i H x H' hlt (hG H s) y) (fun y H4 => ∃ acc, H4 D = some (.lst acc) ∧ acc.length < sizeLine ∧ But p H1 (upd H4 D (.lst (acc ++ [y]))) ∧ FeedAt (upd H4 D (.lst (acc ++ [y]))) p ∧ ∃ xs : List V, (upd H4 D (.lst (acc ++ [y]))) D = some (.lst xs) ∧ xs.length = i + 1 ∧ ∀ (j : Nat) (a : α) (v : V), l[j]? = some a → xs[j]? = some v → ∀ H5, (∀ b o, b ≠ p → b ≠ D → (upd H4 D (.lst (acc ++ [y]))) b = some o → H5 b = some o) → Pr a v H5) ?_
    · exact q
    intro v H4 s4 f4 hv
    have e4 := s4 D _ hpD.symm hH
    refine ⟨xs, e4, by rw [sizeLine_eq]; omega, (s.trans s4).new hD, f4.put hpD, xs ++ [v], upd_same, by rw [List.length_append, hxs]; rfl, fun j a u hj hu H5 b5 => ?_⟩
    have b4 : ∀ b o, b ≠ p → b ≠ D → H4 b = some o → H5 b = some o := fun b o h1 h2 e => b5 b o h1 h2 (by rw [upd_ne h2]; exact e)
    by_cases hj' : j < xs.length
    · rw [List.getElem?_append_left hj'] at hu
      exact hp j a u hj hu H5 fun b o h1 h2 e => b4 b o h1 h2 (s4 b o h1 e)
    · have ej : j = xs.length := by
        have := (List.getElem?_eq_some_iff.mp hu).1
        rw [List.length_append, List.length_singleton] at this
        omega
      subst ej
      rw [List.getElem?_append_right (Nat.le_refl _), Nat.sub_self] at hu
      obtain rfl : v = u := by simpa using hu
      rw [hxs, ha] at hj
      obtain rfl : l[i] = a := Option.some.inj hj
      exact hv H5 b4
  · have e : i = l.length := by omega
    subst e
    exact .inl ⟨w.stops H (hG H s), hd H xs s f hH hxs fun j a v h1 h2 => hp j a v h1 h2 H fun b o _ _ e => e⟩
end
theorem strs_all : ∀ (xs : List V), (∀ v ∈ xs, ∃ z, v = V.str z ∧ isNameT z = true) → ∃ ws : List Str, xs = ws.map V.str ∧ ∀ z ∈ ws, isNameT z = true
  | [], _ => ⟨[], rfl, (fun _ h => nomatch h)⟩
  | v :: xs, h => by
    obtain ⟨z, rfl, hz⟩ := h v List.mem_cons_self
    obtain ⟨ws, rfl, hw⟩ := strs_all xs fun u hu => h u (List.mem_cons_of_mem _ hu)
    refine ⟨z :: ws, rfl, fun y hy => ?_⟩
    rcases List.mem_cons.mp hy with rfl | hy
    · exact hz
    · exact hw y hy
theorem trip_of {H : Hp} : ∀ (zs : List Str) (xs : List V), xs.length = zs.length → (∀ (i : Nat) (z : Str) (v : V), zs[i]? = some z → xs[i]? = some v → ∃ (t : Addr) (c : Int), v = .ref t ∧ H t = some (.tup [.str z, .int c]) ∧ 1 ≤ c ∧ c ≤ 8) →
    ∃ qs : List (Addr × Str × Nat), xs = qs.map (fun q => V.ref q.1) ∧ qs.map (fun q => q.2.1) = zs ∧ ∀ q ∈ qs, H q.1 = some (.tup [.str q.2.1, .int (q.2.2 : Int)]) ∧ 1 ≤ q.2.2 ∧ q.2.2 ≤ 8
  | [], [], _, _ => ⟨[], rfl, rfl, (fun _ h => nomatch h)⟩
  | [], _ :: _, h, _ => by simp at h
  | _ :: _, [], h, _ => by simp at h
  | z :: zs, v :: xs, h, hp => by
    obtain ⟨t, c, rfl, ht, c1, c2⟩ := hp 0 z v rfl rfl
    obtain ⟨qs, e1, e2, e3⟩ := trip_of zs xs (by simpa using h) fun i a u h1 h2 => hp (i + 1) a u (by simpa using h1) (by simpa using h2)
    obtain ⟨n, rfl⟩ : ∃ n : Nat, c = (n : Int) := ⟨c.toNat, by omega⟩
    refine ⟨(t, z, n) :: qs, by rw [e1]; rfl, by rw [List.map_cons, e2], fun q hq => ?_⟩
    rcases List.mem_cons.mp hq with rfl | hq
    · exact ⟨ht, by show 1 ≤ n; omega, by show n ≤ 8; omega⟩
    · exact e3 q hq
theorem stepped_map {α : Type} (f : α → V) (k : Int) (qs : List α) : stepped k (qs.map f) = (if k = 1 then qs else qs.reverse).map f := by
  unfold stepped
  split
  · rfl
  · rw [List.map_reverse]
theorem cut_to {nm : List Str} {r : Nat} (h : r + 1 ≤ nm.length) : cutV (nm.map V.str) none (some (1 + (r : Int))) = (nm.take (r + 1)).map V.str := by
  unfold cutV
  have e : (1 + (r : Int)) = ((r + 1 : Nat) : Int) := by omega
  rw [HT.sIx_none, e, HT.sIx_nat, List.drop_zero, Nat.sub_zero, List.length_map, Nat.min_eq_left h, List.map_take]
def nm1 : List Str := ["x", "y", "z", "w", "v", "u"]
def nm2 : List Str := ["b", "abcdefgh", "jk", "a", "aa", "end"]
theorem nm1_ok : nm1.Nodup ∧ ∀ z ∈ nm1, isNameT z = true := ⟨by decide +kernel, List.all_eq_true.mp (show nm1.all isNameT = true by decide +kernel)⟩
theorem nm2_ok : nm2.Nodup ∧ ∀ z ∈ nm2, isNameT z = true := ⟨by decide +kernel, List.all_eq_true.mp (show nm2.all isNameT = true by decide +kernel)⟩
theorem paired_map {α β γ : Type} {F : β → γ → Prop} {f : α → β} {g : α → γ} : ∀ (qs : List α), (∀ q ∈ qs, F (f q) (g q)) → Paired F (qs.map f) (qs.map g)
  | [], _ => .nil
  | q :: qs, h => .cons (h q List.mem_cons_self) (paired_map qs fun z hz => h z (List.mem_cons_of_mem _ hz))
section
variable {P : Program} {w : World} {K : PySem.W.Frag} {mg : Str → Option Value} {base : Heap}
def sp_law_cells : Sp := fun vs H Q _ => ∃ (p : Addr) (m : Nat), vs = [.ref p, .int (m : Int)] ∧ FeedAt H p ∧ 1 ≤ m ∧ m ≤ 6 ∧ ∀ (d : Addr) (cs : List (Str × Nat)) H', But p H H' → FeedAt H' p → H d = none → H' d = some (.dK (cellKv cs)) → GoodCs cs → cs.length ≤ m → Q (.ref d) H'
theorem ok_law_cells {f : Addr} {fd : FuncData} (F : Fun K "_law_cells" "_law_cells" s_law_cells f fd) (T : Txt0 K mg) (TM : TxtM mg) (GT : OkF P w K mg base CX0 "_law_take" p_law_take 1 sp_law_take) (GP : OkF P w K mg base CX0 "_law_pick" p_law_pick 2 (sp_law_pick K)) (GW : OkF P w K mg base CX0 "_law_word" p_law_word 3 sp_law_word) :
    FnOk P w K mg base CX0 4 f fd p_law_cells sp_law_cells := by
  refine F.ok sc_law_cells (fun vs H Q E h => ?_) (fun cdv A outer s H vs Q E hr h => ?_)
  · obtain ⟨p, m, rfl, _⟩ := h
    rfl
  · obtain ⟨p, m, rfl, hp, m1, m2, k⟩ := h
    have hr1 : Room 1 _ := hr.mono (by decide)
    have hr2 : Room 2 _ := hr.mono (by decide)
    refine ⟨_, C8.pss_cut (ps_set (i := 2) sc_law_cells.nd rfl (Or.inl rfl) (pe_fn GP hr2 rfl pass0 (pa_cons (pv 0) (pa_cons (pe_lst (pa_cons (pe_lst (pa_cons pe_str (pa_cons pe_str (pa_cons pe_str (pa_cons pe_str (pa_cons pe_str (pa_cons pe_str pa_nil)))))))
          (pa_cons (pe_lst (pa_cons pe_str (pa_cons pe_str (pa_cons pe_str (pa_cons pe_str (pa_cons pe_str (pa_cons pe_str pa_nil))))))) pa_nil))) pa_nil))))
      (C8.pss_cut (ps_if (pt_cmpR op_eq (pe_fn GT hr1 rfl pass0 (pa_cons (pv 0) (pa_cons pe_int pa_nil))) pe_int (nomark _))
        (pss_one (ps_set (i := 2) sc_law_cells.nd rfl (Or.inl rfl) (pe_callB (cr_sortedSS rfl) (by rfl) T.sorted (by decide +kernel) (pa_cons (pe_callTy (cr_setS rfl) (by rfl) TM.set (by decide +kernel) (pa_cons
          (pe_lc (own := [("turn", 5)]) (g := gName 5) (tt := tYes) rfl sc_law_cells.nd (pi_range1 (by rfl) TM.range (pa_cons pe_int pa_nil)) (blkOk_by (N := n_law_cells) (sc := defScope s_law_cells) (by decide +kernel))
            (fun _ _ _ _ _ => pg_name (i := 5) sc_law_cells.nd rfl (Or.inl rfl)) (fun _ _ _ _ _ => pts_nil) (fun _ _ _ _ _ => pe_fn GW hr rfl pass0 (pa_cons (pv 0) pa_nil))) pa_nil)) pa_nil)))) pss_nil)
      (pss_cons (ps_set (i := 2) sc_law_cells.nd rfl (Or.inl rfl) (pe_slice sl_list (pv 2) po_none (po_some (pe_op op_add pe_int (pe_fn GT hr1 rfl pass0 (pa_cons (pv 0) (pa_cons (pe_callB (call_min2 rfl) (by rfl) TM.min (by decide +kernel) (pa_cons (pv 1) (pa_cons (pe_callB call_len_seq (by rfl) T.len PySem.boot_len (pa_cons (pv 2) pa_nil)) pa_nil))) pa_nil)))))))
      (pss_cons (ps_set (i := 3) sc_law_cells.nd rfl (Or.inr rfl) (pe_fn GP hr2 rfl pass0 (pa_cons (pv 0) (pa_cons (pe_lst (pa_cons pe_int (pa_cons pe_int (pa_cons pe_int pa_nil)))) pa_nil))))
      (pss_cons (ps_setLc (i := 4) (own := [("name", 6)]) (g := gName 6) (tt := tYes) rfl sc_law_cells.nd rfl rfl (sw_true rfl rfl rfl (by decide +kernel)) (pi_list (pv 2)) (blkOk_by (N := n_law_cells) (sc := defScope s_law_cells) (by decide +kernel))
            (fun _ _ _ _ _ => pg_name (i := 6) sc_law_cells.nd rfl (Or.inl rfl)) (fun _ _ _ _ _ => pts_nil)
            (fun _ _ _ _ _ => pe_tup (pa_cons (pv 6) (pa_cons (pe_op op_add pe_int (pe_fn GT hr1 rfl pass0 (pa_cons (pv 0) (pa_cons (pv 3) pa_nil)))) pa_nil))))
      (pss_one (ps_ret (pe_callTy (call_dictP rfl) (by rfl) T.dict (by decide +kernel) (pa_cons (pe_stepL (pv 4) (po_some (pe_fn GP hr2 rfl pass0 (pa_cons (pv 0) (pa_cons (pe_lst (pa_cons pe_int (pa_cons (pe_un un_neg pe_int) pa_nil))) pa_nil))))) pa_nil)))))))), ?_⟩
    refine ⟨fun σ H' => ∃ (a : Addr) (nm : List Str), σ = [some (.ref p), some (.int (m : Int)), some (.ref a), none, none, none, none] ∧ But p H H' ∧ FeedAt H' p ∧ H' a = some (.lst (nm.map V.str)) ∧ 1 ≤ nm.length ∧ nm.length ≤ 6 ∧ nm.Nodup ∧ ∀ z ∈ nm, isNameT z = true, ?_, ?_⟩
    · refine ⟨_, rfl, (by show 6 ≤ sizeLine; decide), fun a1 h1 => ⟨(by show 6 ≤ sizeLine; decide), fun a2 h2 => ⟨(by show 2 ≤ sizeLine; decide), fun a3 h3 => ?_⟩⟩⟩
      have f1 := hp.put (o := .lst (nm1.map V.str)) (hp.ne h1)
      have f2 := f1.put (o := .lst (nm2.map V.str)) (f1.ne h2)
      have b3 : But p H (upd (upd (upd H a1 (.lst (nm1.map V.str))) a2 (.lst (nm2.map V.str))) a3 (.lst [.ref a1, .ref a2])) := (Same.but ((same_new h1).trans ((same_new h2).trans (same_new h3))))
      refine ⟨p, a3, [.ref a1, .ref a2], rfl, f2.put (f2.ne h3), f2.ne h3, SqL.of upd_same, (by show 1 ≤ 2; decide), (by show 2 ≤ 1000000; decide), fun r v H' hv b f => ?_⟩
      have n12 : a1 ≠ a2 := ne_of_none (o := .lst (nm1.map V.str)) upd_same h2
      have n13 : a1 ≠ a3 := ne_of_none (o := .lst (nm1.map V.str)) (H := upd (upd H a1 (.lst (nm1.map V.str))) a2 (.lst (nm2.map V.str))) (by rw [upd_ne n12, upd_same]) h3
      have n23 : a2 ≠ a3 := ne_of_none (o := .lst (nm2.map V.str)) (H := upd (upd H a1 (.lst (nm1.map V.str))) a2 (.lst (nm2.map V.str))) upd_same h3
      match r, hv with
      | 0, e =>
        obtain rfl : V.ref a1 = v := Option.some.inj e
        exact ⟨a1, nm1, rfl, b3.trans b, f, b _ _ (hp.ne h1).symm (by rw [upd_ne n13, upd_ne n12, upd_same]; rfl), by decide, by decide, nm1_ok⟩
      | 1, e =>
        obtain rfl : V.ref a2 = v := Option.some.inj e
        exact ⟨a2, nm2, rfl, b3.trans b, f, b _ _ (f1.ne h2).symm (by rw [upd_ne n23, upd_same]; rfl), by decide, by decide, nm2_ok⟩
      | r + 2, e => exact absurd e (by simp)
    · rintro σ H2 ⟨a, nm, rfl, b2, f2, ha, nl1, nl6, nnd, nok⟩
      refine ⟨fun σ H' => ∃ (a : Addr) (nm : List Str), σ = [some (.ref p), some (.int (m : Int)), some (.ref a), none, none, none, none] ∧ But p H H' ∧ FeedAt H' p ∧ H' a = some (.lst (nm.map V.str)) ∧ 1 ≤ nm.length ∧ nm.length ≤ 6 ∧ nm.Nodup ∧ ∀ z ∈ nm, isNameT z = true, ?_, ?_⟩
      · refine ⟨_, rfl, p, 3, rfl, f2, by decide, by decide, fun r H3 hr3 b3 f3 => ⟨rfl, _, rfl, ?_⟩⟩
        have b23 := b2.trans b3
        by_cases hr0 : r = 0
        · subst hr0
          rw [decide_eq_true (p := V.int ((0 : Nat) : Int) = V.int 0) rfl]
          refine iteT ⟨6, rfl, by decide, by decide, fun D hD => lc_feed (List.range 6) (walk_range (lo := 0) (n := 6)) hD f3 (fun _ v _ => ∃ z, v = V.str z ∧ isNameT z = true) (by decide) (fun _ _ => trivial) ?_ ?_⟩
          · rintro i x v H4 H5 hx b4 f4 _ ⟨rfl, rfl⟩ R hR
            exact ⟨rfl, _, rfl, p, rfl, f4, fun z H6 b6 f6 hz => hR (.str z) H6 b6 f6 fun _ _ => ⟨z, rfl, hz⟩⟩
          · intro H4 xs b4 f4 hL hlen hpr
            obtain ⟨ws, rfl, hw⟩ := strs_all xs fun v hv => by
              obtain ⟨i, hi, rfl⟩ := List.getElem_of_mem hv
              exact hpr i i _ (by rw [List.getElem?_range (by rw [hlen, List.length_range] at hi; exact hi)]) (List.getElem?_eq_getElem hi)
            rw [List.length_map, List.length_range] at hlen
            have dl := dd_len ws
            refine ⟨D, ws, rfl, SqL.of hL, by rw [hlen]; decide, fun q hq => ⟨q, dd ws, rfl, upd_same, dd_nodup ws, by omega, fun q2 hq2 => ?_⟩⟩
            have fq := f4.put (o := SetSO P w q (dd ws)) (f4.ne hq)
            have bq : But p H (upd H4 q (SetSO P w q (dd ws))) := ((b23.trans b4).then (same_new hq))
            refine ⟨q2, srt (dd ws), rfl, bq.then (same_new hq2), fq.put (fq.ne hq2), upd_same, ?_, by rw [(srt_perm _).length_eq]; omega, (srt_perm _).nodup_iff.mpr (dd_nodup ws), fun z hz => hw z ((dd_mem ws z).mp ((srt_perm _).mem_iff.mp hz))⟩
            rw [(srt_perm _).length_eq]
            cases ws with
            | nil => simp at hlen
            | cons z r => exact List.length_pos_of_mem ((dd_mem (z :: r) z).mpr List.mem_cons_self)
        · rw [decide_eq_false (p := V.int (r : Int) = V.int 0) (fun e => hr0 (by have := V.int.inj e; omega))]
          have hap : a ≠ p := fun z => by
            obtain ⟨d, st, g, _⟩ := f2
            rw [z, g] at ha
            have e := HO.lst.inj (Option.some.inj ha)
            cases nm with
            | nil => cases e
            | cons y ys => cases (List.cons.inj e).1
          exact iteF ⟨a, nm, rfl, b23, f3, b3 _ _ hap ha, nl1, nl6, nnd, nok⟩
      · rintro σ H3 ⟨a, nm, rfl, b3, f3, ha, nl1, nl6, nnd, nok⟩
        have hn : ∃ n : Nat, n = min m nm.length := ⟨_, rfl⟩
        obtain ⟨n, hn⟩ := hn
        have hif : (if ((nm.length : Nat) : Int) < (m : Int) then ((nm.length : Nat) : Int) else (m : Int)) = (n : Int) := by split <;> omega
        refine ⟨_, rfl, _, rfl, _, rfl, _, rfl, a, _, rfl, .inl (SqL.of ha), _, _, rfl, p, n, ?_, f3, by omega, by omega, fun r H4 hr4 b4 f4 => ?_⟩
        · rw [List.length_map, hif]
          rfl
        have hap : a ≠ p := fun z => by
          obtain ⟨d, st, g, _⟩ := f3
          rw [z, g] at ha
          have e := HO.lst.inj (Option.some.inj ha)
          cases nm with
          | nil => cases e
          | cons y ys => cases (List.cons.inj e).1
        have ha4 := b4 _ _ hap ha
        refine ⟨1, (r : Int), rfl, rfl, _, rfl, a, _, rfl, SqL.of ha4, fun o ho => ?_⟩
        rw [cut_to (by omega)] at *
        have nl' : (nm.take (r + 1)).length = r + 1 := by rw [List.length_take]; omega
        have nnd' : (nm.take (r + 1)).Nodup := nnd.sublist (List.take_sublist _ _)
        have nok' : ∀ z ∈ nm.take (r + 1), isNameT z = true := fun z hz => nok z (List.mem_of_mem_take hz)
        generalize nm.take (r + 1) = nm' at *
        have b5 := (b3.trans b4).then (same_new (o := .lst (nm'.map V.str)) ho)
        have f5 := f4.put (o := .lst (nm'.map V.str)) (f4.ne ho)
        have ho5 : (upd H4 o (.lst (nm'.map V.str))) o = some (.lst (nm'.map V.str)) := upd_same
        have hop : o ≠ p := (f4.ne ho).symm
        generalize (upd H4 o (.lst (nm'.map V.str))) = H5 at b5 f5 ho5 ⊢
        refine ⟨_, rfl, (by show 3 ≤ sizeLine; decide), fun c hc => ⟨p, c, _, rfl, f5.put (f5.ne hc), f5.ne hc, SqL.of upd_same, (by show 1 ≤ 3; decide), (by show 3 ≤ 1000000; decide), fun r2 v H6 hv b6 f6 => ?_⟩⟩
        obtain ⟨sz, rfl, sz1, sz8⟩ : ∃ n : Nat, v = .int (n : Int) ∧ 1 ≤ n ∧ n ≤ 8 := by
          have hv' : ([V.int 1, .int 2, .int 8] : List V)[r2]? = some v := hv
          match r2, hv' with
          | 0, e => exact ⟨1, (Option.some.inj e).symm, by decide, by decide⟩
          | 1, e => exact ⟨2, (Option.some.inj e).symm, by decide, by decide⟩
          | 2, e => exact ⟨8, (Option.some.inj e).symm, by decide, by decide⟩
          | r + 3, e => exact absurd e (by simp)
        have bH6 : But p H H6 := (b5.then (same_new hc)).trans b6
        have ho6 := b6 _ _ hop (same_new hc _ _ ho5)
        have wl : Walk (Itl K o) nm'.length (fun H => SqL K H o (nm'.map V.str)) (YAt (nm'.map V.str)) := (walk_list (K := K) (a := o) (xs := nm'.map V.str) |> fun z => by rw [List.length_map] at z; exact z)
        refine ⟨_, rfl, o, rfl, ⟨_, SqL.of ho6⟩, fun D hD => lc_feed nm' wl hD f6 (fun z v H => ∃ (t : Addr) (c : Int), v = .ref t ∧ H t = some (.tup [.str z, .int c]) ∧ 1 ≤ c ∧ c ≤ 8) (by omega) (fun H7 b7 => SqL.of (b7 _ _ hop ho6)) ?_ ?_⟩
        · rintro i z x H7 H8 hz b7 f7 ⟨acc, hacc⟩ ⟨rfl, hx⟩ R hR
          rw [List.getElem?_map, hz] at hx
          obtain rfl : V.str z = x := Option.some.inj hx
          refine ⟨rfl, _, rfl, _, rfl, _, rfl, p, sz, rfl, f7, sz1, by omega, fun r9 H9 hr9 b9 f9 => ⟨1, (r9 : Int), rfl, rfl, (by show 2 ≤ sizeLine; decide), fun t ht => ?_⟩⟩
          have hDp : D ≠ p := (f6.ne hD).symm
          refine hR (.ref t) _ (b9.then (same_new ht)) (f9.put (f9.ne ht)) fun H10 b10 => ⟨t, _, rfl, b10 t _ (f9.ne ht).symm (ne_of_none (b9 _ _ hDp hacc) ht).symm upd_same, by omega, by omega⟩
        · intro H7 xs b7 f7 hL hlen hpr
          obtain ⟨qs, rfl, eqs, hqs⟩ := trip_of nm' xs hlen hpr
          have hqp : ∀ q ∈ qs, q.1 ≠ p := fun q hq z => by
            obtain ⟨d, st, g, _⟩ := f7
            have e := (hqs q hq).1
            rw [z, g] at e
            cases e
          have hDp : D ≠ p := (f6.ne hD).symm
          refine ⟨_, rfl, _, rfl, 1, rfl, (by show 2 ≤ sizeLine; decide), fun c8 hc8 => ⟨p, c8, _, rfl, f7.put (f7.ne hc8), f7.ne hc8, SqL.of upd_same, (by show 1 ≤ 2; decide), (by show 2 ≤ 1000000; decide), fun r8 v H8 hv b8 f8 => ?_⟩⟩
          obtain ⟨k8, rfl, hk8⟩ : ∃ k : Int, v = .int k ∧ (k = 1 ∨ k = -1) := by
            have hv' : ([V.int 1, .int (-1)] : List V)[r8]? = some v := hv
            match r8, hv' with
            | 0, e => exact ⟨1, (Option.some.inj e).symm, .inl rfl⟩
            | 1, e => exact ⟨-1, (Option.some.inj e).symm, .inr rfl⟩
            | r + 2, e => exact absurd e (by simp)
          have s78 : ∀ b o, b ≠ p → H7 b = some o → H8 b = some o := fun b o hb e => b8 b o hb (same_new hc8 _ _ e)
          have bH8 : But p H H8 := ((bH6.trans b7).then (same_new hc8)).trans b8
          refine ⟨k8, rfl, D, _, k8, rfl, SqL.of (s78 _ _ hDp hL), rfl, hk8, fun q9 hq9 => ?_⟩
          rw [stepped_map]
          have hm : ∀ q, q ∈ (if k8 = 1 then qs else qs.reverse) ↔ q ∈ qs := fun q => by split <;> simp
          have hl9 : (if k8 = 1 then qs else qs.reverse).length = qs.length := by split <;> simp
          have hnd : ((if k8 = 1 then qs else qs.reverse).map fun q => q.2.1).Nodup := by
            split
            · rw [eqs]; exact nnd'
            · rw [List.map_reverse, eqs]; exact (List.reverse_perm _).nodup_iff.mpr nnd'
          generalize (if k8 = 1 then qs else qs.reverse) = qr at hm hl9 hnd ⊢
          have ql : qs.length = r + 1 := by rw [← nl', ← eqs, List.length_map]
          refine ⟨q9, qr.map (·.1), qr.map (fun q => (Sum.inr q.2.1, V.int (q.2.2 : Int))), rfl, SqL.of (by rw [upd_same, List.map_map]; rfl), paired_map qr fun q hq => SqT.of (same_new hq9 _ _ (s78 _ _ (hqp q ((hm q).mp hq)) (hqs q ((hm q).mp hq)).1)), fun d hd => ?_⟩
          have ekv : mergeK [] (qr.map (fun q => ((Sum.inr q.2.1, V.int (q.2.2 : Int)) : Key × V))) = cellKv (qr.map fun q => q.2) := by
            rw [merge_nodup]
            · unfold cellKv
              rw [List.map_map]
              rfl
            · rw [List.nil_append, List.map_map]
              have : (qr.map fun q => q.2.1).map (Sum.inr : Str → Key) = qr.map (Prod.fst ∘ fun q => ((Sum.inr q.2.1, V.int (q.2.2 : Int)) : Key × V)) := by rw [List.map_map]; rfl
              rw [← this]
              exact hnd.map _ fun _ _ h e => h (Sum.inr.inj e)
          have bH9 := bH8.then (same_new (o := .lst (qr.map fun q => V.ref q.1)) hq9)
          have f9 := f8.put (o := .lst (qr.map fun q => V.ref q.1)) (f8.ne hq9)
          refine k d (qr.map fun q => q.2) _ (bH9.then (same_new hd)) (f9.put (f9.ne hd)) (bH9.free f9 hd) (by rw [upd_same, ekv]) ⟨fun e => ?_, by rw [List.length_map]; omega, fun c hc => ?_, fun c hc => ?_, by rw [List.map_map]; exact hnd⟩ (by rw [List.length_map]; omega)
          · have := congrArg List.length e
            rw [List.length_map, List.length_nil] at this
            omega
          · obtain ⟨q, hq, rfl⟩ := List.mem_map.mp hc
            refine nok' q.2.1 ?_
            rw [← eqs]
            exact List.mem_map_of_mem (f := fun q : Addr × Str × Nat => q.2.1) ((hm q).mp hq)
          · obtain ⟨q, hq, rfl⟩ := List.mem_map.mp hc
            exact (hqs q ((hm q).mp hq)).2
end
end Vf

set_option maxRecDepth 100000
set_option maxHeartbeats 4000000
namespace Vf
open PySem PySem.Spec PyProof.Rows L2
def rItemsK : V → List V → Hp → VK → Prop := fun x xs H Q => ∃ (a : Addr) (kvs : List (Key × V)), x = .ref a ∧ xs = [] ∧ H a = some (.dK kvs) ∧ ∀ p, H p = none → Q (.ref p) (upd H p (L2.DX.itemsO p a))
theorem mt_itemsK {X : Cx} : MtR X "dict.items" rItemsK := by
  intro pins s σ H x xs v us Q I rx rxs h
  obtain ⟨a, kvs, rfl, rfl, ha, q⟩ := h
  cases rx
  cases rxs
  obtain ⟨hz, hs0, vs, kv, hdo⟩ := (show ObjOk X.prog X.w H s.heap a (.dK kvs) from I.hok a _ ha)
  refine call_meetsIn PySem.F.slot_dict_items hdo.typeIs PySem.F.entry_dict_items (PySem.F.args_dict_items_1 _) (meets_dict_items (mixKind X.prog X.w) a hs0) ⟨⟨vs, hdo⟩, ?_⟩
  have hf : H s.heap.objs.size = none := I.hok.fresh (Nat.le_refl _)
  exact ⟨.ref s.heap.objs.size, upd H s.heap.objs.size (L2.DX.itemsO s.heap.objs.size a), I.laid (t' := s.toks) (fun b u e => Heap.get?_push_of_some _ e) (Nat.le_refl _) (L2.DX.itemsO_ok (Heap.get?_push_size _ rfl)), rfl, q _ hf⟩
theorem pe_ditems {X : Cx} {o : Expr} {to : TE} {apos cpos : Pos} (ho : PE X o to) (hbase : attributeBase o "items" X.env (eval o X.env) = eval o X.env := by rfl) (hline : (apos.endLine == cpos.line) = true := by rfl) : PE X (.Call (.Attribute o "items" apos) [] [] cpos) (tBM0 X.K "dict" rItemsK to) :=
  pe_bm0 PySem.F.plainAttrs_dict PySem.F.slot_dict_items PySem.F.type_dict_items mt_itemsK ho hbase hline
def prD (c : Str × Nat) : PyData := .tuple [.str c.1, .int (c.2 : Int)]
def srtP (cs : List (Str × Nat)) : List (Str × Nat) := cs.mergeSort (PySem.W.dataLe false prD)
theorem alike_pr (a b : Str × Nat) : PySem.W.alike (prD a) (prD b) = true := by
  unfold prD
  simp only [PySem.W.alike, PySem.W.alikeAll, Bool.and_self]
theorem toks_pr (a : Str × Nat) : PySem.W.keyToks (prD a) = [.inl 1, .inr a.1.cps.toList, .inl 1, .inl (a.2 : Int), .inl 0] := by
  unfold prD
  simp [PySem.W.keyToks, PySem.W.keyToksAll]
theorem pr_anti {a b : Str × Nat} (h1 : PySem.W.dataLe false prD a b = true) (h2 : PySem.W.dataLe false prD b a = true) : a = b := by
  have e1 : (listOrd itemOrd).blt (PySem.W.keyToks (prD b)) (PySem.W.keyToks (prD a)) = false := Bool.not_eq_true' _ |>.mp h1
  have e2 : (listOrd itemOrd).blt (PySem.W.keyToks (prD a)) (PySem.W.keyToks (prD b)) = false := Bool.not_eq_true' _ |>.mp h2
  have e := (listOrd itemOrd).total _ _ e2 e1
  rw [toks_pr, toks_pr] at e
  injection e with _ e
  injection e with q1 e
  injection e with _ e
  injection e with q2 e
  have z1 := str_eq (Sum.inr.inj q1)
  have z2 : (a.2 : Int) = b.2 := Sum.inl.inj q2
  exact Prod.ext z1 (by omega)
theorem dle_trans {β : Type} (k : β → PyData) (a b c : β) : PySem.W.dataLe false k a b = true → PySem.W.dataLe false k b c = true → PySem.W.dataLe false k a c = true := (PySem.W.sortLe_total (listOrd itemOrd) false fun b => PySem.W.keyToks (k b)).trans a b c
theorem dle_total {β : Type} (k : β → PyData) (a b : β) : (PySem.W.dataLe false k a b || PySem.W.dataLe false k b a) = true := by
  have := (PySem.W.sortLe_total (listOrd itemOrd) false fun b => PySem.W.keyToks (k b)).total a b
  rw [Bool.or_eq_true]
  exact this
theorem srtP_same {a b : List (Str × Nat)} (p : a.Perm b) : srtP a = srtP b :=
  List.Perm.eq_of_pairwise (le := fun a b => PySem.W.dataLe false prD a b = true) (fun _ _ _ _ h1 h2 => pr_anti h1 h2) (List.pairwise_mergeSort (dle_trans prD) (dle_total prD) a) (List.pairwise_mergeSort (dle_trans prD) (dle_total prD) b)
    ((List.mergeSort_perm a _).trans (p.trans (List.mergeSort_perm b _).symm))
theorem toks_ln : ∀ {xs ys : List Str}, PySem.W.keyToksAll (xs.map PyData.str) = PySem.W.keyToksAll (ys.map PyData.str) → xs = ys
  | [], [], _ => rfl
  | [], y :: ys, h => by simp [PySem.W.keyToksAll] at h
  | x :: xs, [], h => by simp [PySem.W.keyToksAll] at h
  | x :: xs, y :: ys, h => by
    simp only [List.map_cons, PySem.W.keyToksAll, PySem.W.keyToks, List.cons_append, List.nil_append] at h
    injection h with _ h
    injection h with q1 h
    rw [str_eq (Sum.inr.inj q1), toks_ln h]
theorem ln_anti {a b : List Str} (h1 : leL a b = true) (h2 : leL b a = true) : a = b := by
  have e1 : (listOrd itemOrd).blt (PySem.W.keyToks (lnD b)) (PySem.W.keyToks (lnD a)) = false := Bool.not_eq_true' _ |>.mp h1
  have e2 : (listOrd itemOrd).blt (PySem.W.keyToks (lnD a)) (PySem.W.keyToks (lnD b)) = false := Bool.not_eq_true' _ |>.mp h2
  have e := (listOrd itemOrd).total _ _ e2 e1
  unfold lnD at e
  rw [PySem.W.keyToks, PySem.W.keyToks] at e
  exact toks_ln e
theorem sortL_same {a b : List (List Str)} (p : a.Perm b) : sortL a = sortL b :=
  List.Perm.eq_of_pairwise (le := fun a b => leL a b = true) (fun _ _ _ _ h1 h2 => ln_anti h1 h2) (List.pairwise_mergeSort (dle_trans lnD) (dle_total lnD) a) (List.pairwise_mergeSort (dle_trans lnD) (dle_total lnD) b)
    ((sortL_perm a).trans (p.trans (sortL_perm b).symm))
def rSortItK : List V → Hp → VK → Prop := fun vs H Q => ∃ (p a : Addr) (cs : List (Str × Nat)), vs = [.ref p] ∧ H p = some (L2.DX.itemsO p a) ∧ H a = some (.dK (cs.map fun c => (Sum.inr c.1, V.int (c.2 : Int)))) ∧ cs.length < 64 ∧ cs ≠ [] ∧
  ∀ (H' : Hp) (l : Addr) (qs : List (Addr × Str × Nat)), Same H H' → H l = none → H' l = some (.lst (qs.map fun q => V.ref q.1)) → (∀ q ∈ qs, H' q.1 = some (.tup [.str q.2.1, .int (q.2.2 : Int)])) → qs.map (·.2) = srtP cs → Q (.ref l) H'
theorem zip_snd {α β : Type} : ∀ (as : List α) (cs : List β), as.length = cs.length → (as.zip cs).map (·.2) = cs ∧ (as.zip cs).map (·.1) = as
  | [], [], _ => ⟨rfl, rfl⟩
  | [], _ :: _, h => by simp at h
  | _ :: _, [], h => by simp at h
  | a :: as, c :: cs, h => by
    obtain ⟨e1, e2⟩ := zip_snd as cs (by simpa using h)
    exact ⟨by rw [List.zip_cons_cons, List.map_cons, e1], by rw [List.zip_cons_cons, List.map_cons, e2]⟩
theorem each_self {α β : Type} {R : α → β → Prop} {f : β → α} : ∀ (bs : List β), (∀ b ∈ bs, R (f b) b) → PySem.W.EachIs R (bs.map f) bs
  | [], _ => .nil
  | b :: bs, h => .cons (h b List.mem_cons_self) (each_self bs fun c hc => h c (List.mem_cons_of_mem _ hc))
theorem refs_each : ∀ {out : List Value} {bs : List (Addr × Str × Nat)}, PySem.W.EachIs (fun v (b : Addr × Str × Nat) => v = Value.ref b.1) out bs → out = bs.map fun b => Value.ref b.1
  | _, _, .nil => rfl
  | _, _, .cons h1 t => by rw [List.map_cons, h1, refs_each t]
theorem cr_sortItK {X : Cx} (hc : X.calm = true) {k : Nat} (hr : Room k X.A) : CallR X (.builtin "sorted") rSortItK := by
  intro pins s σ H vs us Q I r h
  obtain ⟨p, a, cs, rfl, hp, ha, h64, hne, q⟩ := h
  obtain rfl := Vals.ref1 r
  have view : s.heap.IsItemsView p a := (show ObjOk X.prog X.w H s.heap p (L2.DX.itemsO p a) from I.hok p _ hp).1
  obtain ⟨hz, hs0, ws, kv, hdo⟩ := (show ObjOk X.prog X.w H s.heap a (.dK (cs.map fun c => (Sum.inr c.1, V.int (c.2 : Int)))) from I.hok a _ ha)
  obtain ⟨ep, hat⟩ := hdo.dictAt
  have lk : cs.length = ws.length := by
    have := Paired.length kv
    rwa [List.length_map] at this
  have un := hr.un
  refine Calls.call_function_entry kind_sorted plain_sorted entry_sorted (args_sorted1 _) ?_
  unfold Builtin.«sorted»
  refine wpAny_bind (m := checkCount "sorted" 1 1 _) (wpAny_pure ?_)
  refine wpAny_bind (PySem.W.kdx_collect (A := X.A.in1) (knd := mixKind X.prog X.w) (kvs := ws) (ep := ep) (I.ok.hd hc) view hat (by rw [sizeLine_eq]; omega) fun h' tk as hk hl hG => ?_)
  have la : as.length = cs.length := by omega
  obtain ⟨zs, zf⟩ := zip_snd as cs la
  have pr : ∀ b ∈ as.zip cs, ∃ t1 t2, h'.get? b.1 = some { cls := .type "tuple", data := .seq #[.str b.2.1 t1, .int (b.2.2 : Int) t2] } := fun b hb => by
    obtain ⟨j, hj, rfl⟩ := List.getElem_of_mem hb
    rw [List.length_zip] at hj
    have e1 : as[j]? = some (as.zip cs)[j].1 := by rw [List.getElem_zip, List.getElem?_eq_getElem (by omega)]
    obtain ⟨key, kk, x, f1, f2, f3⟩ := hG.pairs j _ e1
    have e2 : (cs.map fun c => ((Sum.inr c.1, V.int (c.2 : Int)) : Key × V))[j]? = some (Sum.inr (as.zip cs)[j].2.1, V.int ((as.zip cs)[j].2.2 : Int)) := by
      rw [List.getElem?_map, List.getElem_zip, List.getElem?_eq_getElem (by omega)]
      rfl
    obtain ⟨y, g1, g2, g3⟩ := LiI.paired_get kv e2
    rw [f1] at g1
    obtain rfl := Option.some.inj g1
    dsimp only at g2 g3
    subst g2
    obtain ⟨t2, rfl⟩ := g3
    obtain ⟨t1, rfl⟩ : ∃ t, key = .str (as.zip cs)[j].2.1 t := relV_key (show keyIs (Sum.inr (as.zip cs)[j].2.1) key = true from f2)
    exact ⟨t1, t2, f3⟩
  have hvs : as.map Value.ref = (as.zip cs).map fun b => Value.ref b.1 := by
    have : (as.zip cs).map (fun b => Value.ref b.1) = ((as.zip cs).map (·.1)).map Value.ref := by rw [List.map_map]; rfl
    rw [this, zf]
  have lz : (as.zip cs).length = cs.length := by rw [List.length_zip]; omega
  refine wpAny_bind (wpAny_newList ?_ (by rw [List.length_map, la, sizeLine_eq]; omega))
  have hoL : (h'.push (seqObj "list" (as.map Value.ref).toArray 0)).get? h'.objs.size = some (seqObj "list" (as.map Value.ref).toArray 0) := Heap.get?_push_size _ rfl
  have keep0 : ∀ b o, h'.get? b = some o → (PySem.W.sortingHeap (h'.push (seqObj "list" (as.map Value.ref).toArray 0)) h'.objs.size (as.map Value.ref)).get? b = some o := fun b o e => PySem.W.sortingHeap_old (Nat.ne_of_lt (Heap.lt_size e)) (Heap.get?_push_of_some _ e)
  have er : PySem.W.EachIs (fun v (b : Addr × Str × Nat) => ∃ as', Reads (PySem.W.sortingHeap (h'.push (seqObj "list" (as.map Value.ref).toArray 0)) h'.objs.size (as.map Value.ref)) v (prD b.2) as') (as.map Value.ref) (as.zip cs) := by
    conv => arg 2; rw [hvs]
    refine each_self (f := fun b : Addr × Str × Nat => Value.ref b.1) _ fun b hb => ?_
    obtain ⟨t1, t2, e⟩ := pr b hb
    exact ⟨_, .tuple (keep0 _ _ e) rfl rfl (.cons (.str _ _) (.cons (.int _ _) .nil))⟩
  have ei : PySem.W.EachIs (fun v (b : Addr × Str × Nat) => v = Value.ref b.1) (as.map Value.ref) (as.zip cs) := by
    rw [hvs]
    exact each_self (f := fun b : Addr × Str × Nat => Value.ref b.1) _ fun b hb => rfl
  have hal : PySem.W.AllAlike ((as.zip cs).map fun b => prD b.2) := fun d hd d' hd' => by
    obtain ⟨b, _, rfl⟩ := List.mem_map.mp hd
    obtain ⟨b', _, rfl⟩ := List.mem_map.mp hd'
    exact alike_pr b.2 b'.2
  have hso : PySem.W.Sortable ((as.zip cs).map fun b => prD b.2) := .inl fun d hd => by
    obtain ⟨b, _, rfl⟩ := List.mem_map.mp hd
    exact ⟨_, _, rfl⟩
  have hb1 : ∀ d ∈ ((as.zip cs).map fun b => prD b.2), d.depth ≤ 1 := fun d hd => by
    obtain ⟨b, _, rfl⟩ := List.mem_map.mp hd
    simp [prD, PyData.depth, PyData.depthAll]
  refine wpAny_bind (wpAny_holding (wpAny_call_entry slot_list_sort ⟨_, hoL, rfl⟩ entry_list_sort
    (PySem.W.list_sort_vals (κ := PySem.W.dataKind (PySem.W.sortingHeap (h'.push (seqObj "list" (as.map Value.ref).toArray 0)) h'.objs.size (as.map Value.ref)) ((as.zip cs).map fun b => prD b.2)) hoL
      (PySem.W.SortsAt.data (s := { s with heap := PySem.W.sortingHeap (h'.push (seqObj "list" (as.map Value.ref).toArray 0)) h'.objs.size (as.map Value.ref), toks := tk }) (PySem.W.each_map (R := fun v d => ∃ as', Reads (PySem.W.sortingHeap (h'.push (seqObj "list" (as.map Value.ref).toArray 0)) h'.objs.size (as.map Value.ref)) v d as') (fun b : Addr × Str × Nat => prD b.2) er) hal hso fun d hd => by
        have := hb1 d hd
        show X.A.units + 1 + 1 + d.depth < cLine
        omega) (by rw [List.length_map, la, sizeLine_eq]; omega) ⟨_, rfl, ?_⟩) (args_list_sort _)))
  have outE := PySem.W.sortVals_data false ei er hal
  generalize PySem.W.sortVals (PySem.W.dataKind (PySem.W.sortingHeap (h'.push (seqObj "list" (as.map Value.ref).toArray 0)) h'.objs.size (as.map Value.ref)) ((as.zip cs).map fun b => prD b.2)) false (as.map Value.ref) (as.map Value.ref) = out at outE ⊢
  have eo := refs_each outE
  have hqm : ∀ b, b ∈ (as.zip cs).mergeSort (PySem.W.dataLe false fun b => prD b.2) ↔ b ∈ as.zip cs := fun b => (List.mergeSort_perm _ _).mem_iff
  have hql : ((as.zip cs).mergeSort (PySem.W.dataLe false fun b => prD b.2)).length = cs.length := by rw [List.length_mergeSort, lz]
  have hqs : ((as.zip cs).mergeSort (PySem.W.dataLe false fun b => prD b.2)).map (·.2) = srtP cs := by
    have e : ((as.zip cs).mergeSort (PySem.W.dataLe false fun b => prD b.2)).map (·.2) = ((as.zip cs).map (·.2)).mergeSort (PySem.W.dataLe false prD) := List.map_mergeSort (f := fun b : Addr × Str × Nat => b.2) fun _ _ _ _ => rfl
    rw [e, zs]
    rfl
  generalize (as.zip cs).mergeSort (PySem.W.dataLe false fun b => prD b.2) = qs at hqm hql hqs eo
  subst eo
  have kF : ∀ b o, b ≠ h'.objs.size → h'.get? b = some o → (sortedHeap (h'.push (seqObj "list" (as.map Value.ref).toArray 0)) h'.objs.size (as.map Value.ref) (qs.map fun b => Value.ref b.1).toArray).get? b = some o := fun b o hb e => (sortedHeap_old hb (Nat.lt_of_lt_of_le (Heap.lt_size e) (by rw [size_push']; exact Nat.le_succ _))).trans (Heap.get?_push_of_some _ e)
  have kS : ∀ b o, s.heap.get? b = some o → (sortedHeap (h'.push (seqObj "list" (as.map Value.ref).toArray 0)) h'.objs.size (as.map Value.ref) (qs.map fun b => Value.ref b.1).toArray).get? b = some o := fun b o e => kF b o (Nat.ne_of_lt (Heap.lt_size (hk b o e))) (hk b o e)
  obtain ⟨eF, heF⟩ := sortedHeap_at (vs := as.map Value.ref) (out := (qs.map fun b => Value.ref b.1).toArray) hoL
  have hlt : s.heap.objs.size ≤ h'.objs.size := by
    cases e : as with
    | nil =>
      rw [e] at la
      exact absurd (List.length_eq_zero_iff.mp la.symm) hne
    | cons b r =>
      have hb : b ∈ as := by rw [e]; exact List.mem_cons_self
      exact Nat.le_of_lt (Nat.lt_trans (hG.above b hb) (hG.there hb))
  have hn0 : H h'.objs.size = none := I.hok.fresh hlt
  have nd : as.Nodup := List.Pairwise.imp (fun {a b} (h : a < b) => Nat.ne_of_lt h) hG.rise
  generalize hFH : sortedHeap (h'.push (seqObj "list" (as.map Value.ref).toArray 0)) h'.objs.size (as.map Value.ref) (qs.map fun b => Value.ref b.1).toArray = hF at kF kS heF
  have I1 : Inv X pins σ H { s with heap := hF, toks := tk } := I.kept (t' := tk) kS
  have I2 : Inv X pins σ (upd H h'.objs.size (.lst (qs.map fun q => V.ref q.1))) { s with heap := hF, toks := tk } :=
    I1.take (h' := hF) (t' := tk) (fun b ob _ e => e) (I.fpOk hlt hn0) ⟨by rw [List.length_map, hql, sizeLine_eq]; omega, (qs.map fun b => Value.ref b.1), eF, by
      have : ∀ l : List (Addr × Str × Nat), Vals (l.map fun q => V.ref q.1) (l.map fun b => Value.ref b.1) := fun l => by
        induction l with
        | nil => exact .nil
        | cons b r ih => exact .cons rfl ih
      exact this qs, heF⟩
  obtain ⟨H2, I3, g, qt⟩ := L2.DX.takeT (P := fun b vs => ∃ c : Str × Nat, (b, c) ∈ as.zip cs ∧ vs = [.str c.1, .int (c.2 : Int)]) I as _ I2 nd fun b hb => by
    obtain ⟨c, hc⟩ : ∃ c, (b, c) ∈ as.zip cs := by
      rw [← zf] at hb
      obtain ⟨z, hz, rfl⟩ := List.mem_map.mp hb
      exact ⟨z.2, hz⟩
    obtain ⟨t1, t2, hg⟩ := pr (b, c) hc
    have hbl : s.heap.objs.size ≤ b := Nat.le_of_lt (hG.above b hb)
    have hbn : b ≠ h'.objs.size := Nat.ne_of_lt (Heap.lt_size hg)
    refine ⟨hbl, ?_, [.str c.1, .int (c.2 : Int)], ⟨c, hc, rfl⟩, fun H3 => ⟨(by show 2 ≤ sizeLine; decide), [.str c.1 t1, .int (c.2 : Int) t2], .cons ⟨_, rfl⟩ (.cons ⟨_, rfl⟩ .nil), ⟨_, kF _ _ hbn hg, rfl, 0, rfl⟩⟩⟩
    rw [upd_ne hbn]
    exact I.hok.fresh hbl
  have gr : Same H H2 := fun b o e => g b o (by rw [upd_ne (ne_of_none e hn0)]; exact e)
  refine wpAny_pure ⟨_, rfl, .ref h'.objs.size, H2, ?_, rfl, q H2 h'.objs.size qs gr hn0 (g _ _ upd_same) (fun z hz => ?_) hqs⟩
  · exact I3
  · have hz' := (hqm z).mp hz
    obtain ⟨vs, ⟨c, hc, rfl⟩, hH⟩ := qt z.1 (List.of_mem_zip hz').1
    have : c = z.2 := by
      obtain ⟨i, hi, ei⟩ := List.getElem_of_mem hz'
      obtain ⟨j, hj, ej⟩ := List.getElem_of_mem hc
      rw [List.length_zip] at hi hj
      rw [List.getElem_zip] at ei ej
      have e1 : as[i]? = as[j]? := by
        rw [List.getElem?_eq_getElem (by omega), List.getElem?_eq_getElem (by omega)]
        have a1 := congrArg Prod.fst ei
        have a2 := congrArg Prod.fst ej
        exact congrArg some (a1.trans a2.symm)
      have eij := (List.getElem?_inj (by omega) nd).mp e1
      subst eij
      have a1 := congrArg Prod.snd ei
      have a2 := congrArg Prod.snd ej
      exact a2.symm.trans a1
    rw [this] at hH
    exact hH
end Vf

set_option maxRecDepth 100000
set_option maxHeartbeats 4000000
namespace Vf
open PySem PySem.Spec PyProof.Rows L2
def rRepr (K : PySem.W.Frag) : List V → Hp → VK → Prop := fun xs H Q => ∃ (a : Addr) (d : PyData), xs = [.ref a] ∧ Dp K H (.ref a) d ∧ d.showable = true ∧ d.hasDict = false ∧ d.depth ≤ 64 ∧ d.shown.length ≤ sizeLine ∧ Q (.str d.shown) H
theorem cr_repr {X : Cx} (hgd : Calm X.A) {k : Nat} (hr : Room k X.A) : CallR X (.builtin "repr") (rRepr X.K) := by
  intro pins s σ H vs us Q I r h
  obtain ⟨a, d, rfl, hd, sh, nod, dep, hz, q⟩ := h
  obtain ⟨u, rfl, r1⟩ := vals1 r
  obtain ⟨as, rd⟩ := Dp.reads I d (.ref a) u hd r1
  obtain rfl : u = Value.ref a := r1
  have room := hr.un
  refine repr_of_reads' rd sh (fun z => by rw [nod] at z; cases z) hgd (by omega) (fun _ _ e => e) (fun h' u tk keep => ?_) hz
  exact ⟨.str d.shown, H, I.kept (t' := tk) keep, ⟨u, rfl⟩, q⟩
mutual
/-- data that can be shown: small numbers, texts, lists and tuples -/
def shD : PyData → Bool
  | .none => true
  | .bool _ => true
  | .int i => decide (0 ≤ i) && decide (i < 1000000)
  | .str x => PyData.strOk x
  | .list xs => shAll xs
  | .tuple xs => shAll xs
  | .dict _ => false
def shAll : List PyData → Bool
  | [] => true
  | x :: xs => shD x && shAll xs
end
theorem int_short {i : Int} (h : 0 ≤ i) (h2 : i < 1000000) : (PyData.int i).shown.length ≤ 13 ∧ i.natAbs.log2 < 1920 := by
  obtain ⟨k, rfl⟩ := Int.eq_ofNat_of_zero_le h
  have hk : k < 1000000 := by omega
  constructor
  · show (natS k).length ≤ 13
    rw [TL.len_tl, tl_natS]
    exact Nat.le_trans (TL.numL_len (k := 6) (by decide) (by simpa using hk)) (by decide)
  · show k.log2 < 1920
    by_cases h0 : k = 0
    · subst h0
      decide
    · exact Nat.lt_of_lt_of_le ((Nat.log2_lt h0).mpr (show k < 2 ^ 20 by omega)) (by decide)
mutual
theorem sh_show : ∀ d : PyData, shD d = true → d.showable = true ∧ d.hasDict = false ∧ d.leavesShort 13 = true
  | .none, _ => ⟨rfl, rfl, rfl⟩
  | .bool _, _ => ⟨rfl, rfl, rfl⟩
  | .int i, h => by
    simp only [shD, Bool.and_eq_true, decide_eq_true_eq] at h
    obtain ⟨h1, h2⟩ := int_short h.1 h.2
    exact ⟨by simpa [PyData.showable] using h2, rfl, by simpa [PyData.leavesShort] using h1⟩
  | .str x, h => by
    refine ⟨rfl, rfl, ?_⟩
    simp only [shD, PyData.strOk] at h
    rw [← Array.all_toList, List.all_eq_true] at h
    simp only [PyData.leavesShort, List.all_eq_true, decide_eq_true_eq]
    intro c hc
    have := h c hc
    simp only [decide_eq_true_eq] at this
    have e : (16 : Nat) ^ 8 = 4294967296 := by decide
    omega
  | .list xs, h => by
    have := sh_showAll xs (by simpa [shD] using h)
    simpa [PyData.showable, PyData.hasDict, PyData.leavesShort] using this
  | .tuple xs, h => by
    have := sh_showAll xs (by simpa [shD] using h)
    simpa [PyData.showable, PyData.hasDict, PyData.leavesShort] using this
  | .dict _, h => by simp [shD] at h
theorem sh_showAll : ∀ xs : List PyData, shAll xs = true → PyData.showableAll xs = true ∧ PyData.hasDictAll xs = false ∧ PyData.leavesShortAll 13 xs = true
  | [], _ => ⟨rfl, rfl, rfl⟩
  | x :: xs, h => by
    simp only [shAll, Bool.and_eq_true] at h
    obtain ⟨a1, a2, a3⟩ := sh_show x h.1
    obtain ⟨b1, b2, b3⟩ := sh_showAll xs h.2
    simp [PyData.showableAll, PyData.hasDictAll, PyData.leavesShortAll, a1, a2, a3, b1, b2, b3]
end
theorem shown_fits {d : PyData} (h : shD d = true) (hw : d.weight ≤ 1000000) : d.shown.length ≤ sizeLine := by
  have := PyData.shown_le 13 (by decide) d (sh_show d h).2.2
  rw [sizeLine_eq]
  omega
end Vf

set_option maxRecDepth 100000
set_option maxHeartbeats 4000000
namespace Vf
open PySem PySem.Spec PyProof.Rows L2 PyProof.V 
def keyD : Key → PyData
  | .inl i => .int i
  | .inr x => .str x
def atomD : V → Option PyData
  | .non => some .none
  | .bl b => some (.bool b)
  | .int i => some (.int i)
  | .str x => some (.str x)
  | _ => none
theorem atom_reads {h : Heap} {v : V} {u : Value} {d : PyData} (e : atomD v = some d) (r : RelV v u) : Reads h u d [] := by
  cases v with
  | non =>
    obtain rfl := Option.some.inj e
    obtain rfl : u = Value.none := r
    exact .none
  | bl b =>
    obtain rfl := Option.some.inj e
    obtain rfl : u = Value.bool b := r
    exact .bool b
  | int i =>
    obtain rfl := Option.some.inj e
    obtain ⟨t, rfl⟩ : ∃ t, u = Value.int i t := r
    exact .int i t
  | str x =>
    obtain rfl := Option.some.inj e
    obtain ⟨t, rfl⟩ : ∃ t, u = Value.str x t := r
    exact .str x t
  | _ => cases e
theorem key_reads {h : Heap} {k : Key} {u : Value} (e : keyIs k u = true) : Reads h u (keyD k) [] := by
  rcases keyIs_shape e with ⟨i, t, rfl, rfl⟩ | ⟨x, t, rfl, rfl⟩
  · exact .int i t
  · exact .str x t
/-- what a dict of atoms reads as -/
inductive FlatD : List (Key × V) → List (PyData × PyData) → Prop
  | nil : FlatD [] []
  | cons {k : Key} {v : V} {d : PyData} {kvs : List (Key × V)} {ds : List (PyData × PyData)} : atomD v = some d → FlatD kvs ds → FlatD ((k, v) :: kvs) ((keyD k, d) :: ds)
theorem pairs_of {h : Heap} : ∀ {kvs : List (Key × V)} {ds : List (PyData × PyData)} {vs : List (Key × Value)}, FlatD kvs ds → KV kvs vs → PairsRead h keyD vs ds []
  | _, _, _, .nil, h => by
    cases h
    exact .nil
  | _, _, _, .cons e f, h => by
    cases h with
    | @cons _ q _ _ h1 h2 =>
      obtain ⟨k', u⟩ := q
      obtain ⟨rfl, r⟩ := h1
      exact .cons (atom_reads e r) (pairs_of f h2)
def rReprFlat : List V → Hp → VK → Prop := fun xs H Q => ∃ (a : Addr) (kvs : List (Key × V)) (ds : List (PyData × PyData)), xs = [.ref a] ∧ H a = some (.dK kvs) ∧ FlatD kvs ds ∧ (PyData.dict ds).showable = true ∧ (PyData.dict ds).depth ≤ 64 ∧ (PyData.dict ds).shown.length ≤ sizeLine ∧ Q (.str (PyData.dict ds).shown) H
theorem cr_reprFlat {X : Cx} (hgd : Calm X.A) {k : Nat} (hr : Room k X.A) : CallR X (.builtin "repr") rReprFlat := by
  intro pins s σ H vs us Q I r h
  obtain ⟨a, kvs, ds, rfl, ha, fl, sh, dep, hz, q⟩ := h
  obtain ⟨u, rfl, r1⟩ := vals1 r
  obtain rfl : u = Value.ref a := r1
  have room := hr.un
  have ok : ObjOk X.prog X.w H s.heap a (.dK kvs) := I.hok a _ ha
  obtain ⟨_, away, ws, kv, dict⟩ := ok
  have rd := reads_dictOf (enc := keyD) (fun k key e => key_reads e) dict (pairs_of fl kv)
  refine repr_of_reads' rd sh (fun _ z => ?_) hgd (by omega) (fun _ _ e => e) (fun h' u tk keep => ?_) hz
  · rw [List.mem_singleton] at z
    rw [← z] at away
    simp at away
  · exact ⟨.str (PyData.dict ds).shown, H, I.kept (t' := tk) keep, ⟨u, rfl⟩, q⟩
end Vf

set_option maxRecDepth 100000
set_option maxHeartbeats 8000000
namespace Vf
open PySem PySem.Spec PyProof.Rows L2
/-- what repr tells of a value -/
inductive ReprIs (K : PySem.W.Frag) (H : Hp) : V → Str → Prop
  | non : ReprIs K H .non "None"
  | bl (b : Bool) : ReprIs K H (.bl b) (if b then "True" else "False")
  | int {i : Int} : i.natAbs.log2 < 1920 → ReprIs K H (.int i) (toString i)
  | str {x : Str} : (PySem.reprText x).length ≤ sizeLine → ReprIs K H (.str x) (PySem.reprText x)
  | dat {a : Addr} {d : PyData} : Dp K H (.ref a) d → d.showable = true → d.hasDict = false → d.depth ≤ 64 → d.shown.length ≤ sizeLine → ReprIs K H (.ref a) d.shown
  | dic {a : Addr} {kvs : List (Key × V)} {ds : List (PyData × PyData)} : H a = some (.dK kvs) → FlatD kvs ds → (PyData.dict ds).showable = true → (PyData.dict ds).depth ≤ 64 → (PyData.dict ds).shown.length ≤ sizeLine → ReprIs K H (.ref a) (PyData.dict ds).shown
theorem cr_reprA {X : Cx} (hgd : Calm X.A) {k : Nat} (hr : Room k X.A) : CallR X (.builtin "repr") (fun xs H Q => ∃ x z, xs = [x] ∧ ReprIs X.K H x z ∧ Q (.str z) H) := by
  intro pins s σ H vs us Q I r h
  obtain ⟨x, z, rfl, hx, q⟩ := h
  cases hx with
  | non =>
    obtain ⟨u, rfl, ru⟩ := vals1 r
    obtain rfl : u = Value.none := ru
    exact PySem.P.repr_of_none ⟨.str _, H, I.tok _, ⟨_, rfl⟩, q⟩
  | bl b =>
    obtain ⟨u, rfl, ru⟩ := vals1 r
    obtain rfl : u = Value.bool b := ru
    exact PySem.P.repr_of_bool ⟨.str _, H, I.tok _, ⟨_, rfl⟩, q⟩
  | int hz =>
    obtain ⟨u, rfl, t, rfl⟩ := vals1 r
    exact PySem.P.repr_of_int hz ⟨.str _, H, I.tok _, ⟨_, rfl⟩, q⟩
  | str hz =>
    obtain ⟨u, rfl, t, rfl⟩ := vals1 r
    exact PySem.P.repr_of_str ⟨.str _, H, I.tok _, ⟨_, rfl⟩, q⟩ hz
  | dat h1 h2 h3 h4 h5 => exact cr_repr hgd hr pins s σ H _ us Q I r ⟨_, _, rfl, h1, h2, h3, h4, h5, q⟩
  | dic h1 h2 h3 h4 h5 => exact cr_reprFlat hgd hr pins s σ H _ us Q I r ⟨_, _, _, rfl, h1, h2, h3, h4, h5, q⟩
end Vf

set_option maxRecDepth 100000
set_option maxHeartbeats 8000000
namespace Vf
open PySem PySem.Spec PyProof.Rows L2
theorem lk_none {sd : Addr} {r : Nat} {t nd : Addr} {m : Str} (h : ¬ m = "_sizes" ∧ ¬ m = "room" ∧ ¬ m = "lines" ∧ ¬ m = "_numbers") : (lflds sd r t nd).lookup m = none := by
  unfold lflds
  rw [lk_ne (beq_eq_false_iff_ne.mpr h.1), lk_ne (beq_eq_false_iff_ne.mpr h.2.1), lk_ne (beq_eq_false_iff_ne.mpr h.2.2.1), lk_ne (beq_eq_false_iff_ne.mpr h.2.2.2)]
  rfl
structure GoodLs (ls : List (List Str)) : Prop where
  few : ls.length ≤ 6
  short : ∀ ws ∈ ls, ws.length ≤ 6
  name : ∀ ws ∈ ls, ∀ z ∈ ws, isNameT z = true
theorem GoodLs.ok {ls : List (List Str)} (g : GoodLs ls) : ∀ ws ∈ ls, ∀ z ∈ ws, PyData.strOk z = true := fun ws hw z hz => ok_name (g.name ws hw z hz)
theorem sh_strs : ∀ {ws : List Str}, (∀ z ∈ ws, isNameT z = true) → shAll (ws.map PyData.str) = true ∧ PyData.weightAll (ws.map PyData.str) ≤ 9 * ws.length
  | [], _ => ⟨rfl, by simp [PyData.weightAll]⟩
  | z :: ws, h => by
    obtain ⟨a, b⟩ := sh_strs (ws := ws) fun y hy => h y (List.mem_cons_of_mem _ hy)
    have hz := h z List.mem_cons_self
    have h8 := (name_len hz).2
    have e : z.cps.size = z.length := rfl
    simp only [List.map_cons, shAll, shD, ok_name hz, a, PyData.weightAll, PyData.weight, List.length_cons, e]
    exact ⟨rfl, by omega⟩
theorem sh_lines : ∀ {ls : List (List Str)}, (∀ ws ∈ ls, ws.length ≤ 6) → (∀ ws ∈ ls, ∀ z ∈ ws, isNameT z = true) → shAll (ls.map lnD) = true ∧ PyData.weightAll (ls.map lnD) ≤ 60 * ls.length
  | [], _, _ => ⟨rfl, by simp [PyData.weightAll]⟩
  | ws :: ls, h1, h2 => by
    obtain ⟨a, b⟩ := sh_lines (ls := ls) (fun y hy => h1 y (List.mem_cons_of_mem _ hy)) fun y hy => h2 y (List.mem_cons_of_mem _ hy)
    obtain ⟨c, d⟩ := sh_strs (h2 ws List.mem_cons_self)
    have := h1 ws List.mem_cons_self
    simp only [List.map_cons, lnD, shAll, shD, c, PyData.weightAll, PyData.weight, List.length_cons, Bool.true_and]
    exact ⟨a, by omega⟩
theorem repr_lines {K : PySem.W.Frag} {H : Hp} {t : Addr} {qs : List (Addr × List Str)} (h : LinesAt H t qs) (g : GoodLs (qs.map Prod.snd)) : ReprIs K H (.ref t) (linesD (qs.map Prod.snd)).shown := by
  obtain ⟨a, b⟩ := sh_lines g.short g.name
  have sh : shD (linesD (qs.map Prod.snd)) = true := by simp only [linesD, shD]; exact a
  obtain ⟨h1, h2, _⟩ := sh_show _ sh
  have few := g.few
  refine .dat h.dp h1 h2 ?_ (shown_fits sh ?_)
  · have := depth_lines (qs.map Prod.snd)
    simp only [linesD, PyData.depth]
    omega
  · simp only [linesD, PyData.weight]
    omega
theorem log_le {n : Nat} (h : n < 1000000) : ((n : Int)).natAbs.log2 < 1920 := (int_short (i := (n : Int)) (by omega) (by omega)).2
theorem wt_int {n : Nat} (h : n ≤ 8) : (if ((n : Int) == 0) = true then 0 else ((n : Int)).natAbs.log2 + 1) ≤ 5 := by
  split
  · omega
  · have h0 : n ≠ 0 := fun z => by simp_all
    have : n.log2 < 4 := (Nat.log2_lt h0).mpr (by omega)
    show n.log2 + 1 ≤ 5
    omega
theorem sh_pairs : ∀ {cs : List (Str × Nat)}, (∀ c ∈ cs, isNameT c.1 = true ∧ c.2 ≤ 8) → shAll (cs.map prD) = true ∧ PyData.weightAll (cs.map prD) ≤ 30 * cs.length ∧ PyData.depthAll (cs.map prD) ≤ 1
  | [], _ => ⟨rfl, by simp [PyData.weightAll], by simp [PyData.depthAll]⟩
  | c :: cs, h => by
    obtain ⟨a, b, d⟩ := sh_pairs (cs := cs) fun y hy => h y (List.mem_cons_of_mem _ hy)
    obtain ⟨hz, h8⟩ := h c List.mem_cons_self
    have l8 := (name_len hz).2
    have e : c.1.cps.size = c.1.length := rfl
    have w5 := wt_int h8
    simp only [List.map_cons, prD, shAll, shD, ok_name hz, PyData.weightAll, PyData.weight, PyData.depthAll, PyData.depth, List.length_cons, e]
    rw [decide_eq_true (p := (0 : Int) ≤ (c.2 : Int)) (by omega), decide_eq_true (p := (c.2 : Int) < 1000000) (by omega)]
    refine ⟨a, ?_, ?_⟩
    · omega
    · omega
theorem dp_pairs {K : PySem.W.Frag} {H : Hp} : ∀ {qs : List (Addr × Str × Nat)}, (∀ q ∈ qs, H q.1 = some (.tup [.str q.2.1, .int (q.2.2 : Int)])) → DpAll K H (qs.map fun q => V.ref q.1) ((qs.map (·.2)).map prD)
  | [], _ => .nil
  | q :: qs, h => .cons (.tup (SqT.of (h q List.mem_cons_self)) (.cons (.str _) (.cons (.int _) .nil))) (dp_pairs fun z hz => h z (List.mem_cons_of_mem _ hz))
theorem repr_pairs {K : PySem.W.Frag} {H : Hp} {l : Addr} {qs : List (Addr × Str × Nat)} (hl : H l = some (.lst (qs.map fun q => V.ref q.1))) (ht : ∀ q ∈ qs, H q.1 = some (.tup [.str q.2.1, .int (q.2.2 : Int)])) (few : qs.length ≤ 6) (g : ∀ c ∈ qs.map (·.2), isNameT c.1 = true ∧ c.2 ≤ 8) :
    ReprIs K H (.ref l) (PyData.list ((qs.map (·.2)).map prD)).shown := by
  obtain ⟨a, b, c⟩ := sh_pairs g
  have sh : shD (PyData.list ((qs.map (·.2)).map prD)) = true := by simp only [shD]; exact a
  obtain ⟨h1, h2, _⟩ := sh_show _ sh
  have hl2 : (qs.map (·.2)).length = qs.length := List.length_map ..
  refine .dat (.lst (SqL.of hl) (dp_pairs ht)) h1 h2 ?_ (shown_fits sh ?_)
  · simp only [PyData.depth]
    omega
  · simp only [PyData.weight]
    omega
theorem linesOf_good {ps : List (Addr × List Str)} {cs : List (Str × Nat)} (g : GoodCs cs) (perm : (ps.flatMap Prod.snd).Perm (cs.map Prod.fst)) (ne : ∀ p ∈ ps, p.2 ≠ []) : GoodLs (linesOf ps) := by
  have l6 : (ps.flatMap Prod.snd).length ≤ 6 := by
    have := perm.length_eq
    rw [List.length_map] at this
    have := g.few
    omega
  have hm : ∀ ws ∈ linesOf ps, ∃ p ∈ ps, ws = srt p.2 := fun ws hw => by
    obtain ⟨p, hp, e⟩ := List.mem_map.mp ((sortL_perm _).mem_iff.mp hw)
    exact ⟨p, hp, e.symm⟩
  refine ⟨?_, fun ws hw => ?_, fun ws hw z hz => ?_⟩
  · unfold linesOf
    rw [(sortL_perm _).length_eq, List.length_map]
    exact Nat.le_trans (flat_len ne) l6
  · obtain ⟨p, hp, rfl⟩ := hm ws hw
    rw [(srt_perm _).length_eq]
    exact Nat.le_trans (flat_part hp) l6
  · obtain ⟨p, hp, rfl⟩ := hm ws hw
    have hz' := perm.mem_iff.mp (List.mem_flatMap.mpr ⟨p, hp, (srt_perm _).mem_iff.mp hz⟩)
    obtain ⟨c, hc, rfl⟩ := List.mem_map.mp hz'
    exact g.name c hc
theorem linesOf_nodup {ps : List (Addr × List Str)} {cs : List (Str × Nat)} (g : GoodCs cs) (perm : (ps.flatMap Prod.snd).Perm (cs.map Prod.fst)) : (linesOf ps).flatten.Nodup := by
  have p1 : (linesOf ps).flatten.Perm (ps.map fun p => srt p.2).flatten := (sortL_perm _).flatten
  have p2 : ∀ ps : List (Addr × List Str), (ps.map fun p => srt p.2).flatten.Perm (ps.flatMap Prod.snd) := fun ps => by
    induction ps with
    | nil => exact .nil
    | cons a r ih =>
      rw [List.map_cons, List.flatten_cons, List.flatMap_cons]
      exact (srt_perm a.2).append ih
  exact ((p1.trans (p2 ps)).trans perm).nodup_iff.mpr g.nd
theorem num_keys : ∀ (ls : List (List Str)) (k : Nat), ((ls.zipIdx k).flatMap fun q => q.1.map fun z => ((Sum.inr z, V.int (q.2 : Int)) : Key × V)).map Prod.fst = ls.flatten.map Sum.inr
  | [], _ => rfl
  | w :: r, k => by
    rw [List.zipIdx_cons, List.flatMap_cons, List.map_append, num_keys r (k + 1), List.flatten_cons, List.map_append, List.map_map]
    rfl
theorem num_val {ls : List (List Str)} (nd : ls.flatten.Nodup) {i : Nat} {ws : List Str} {z : Str} (hi : ls[i]? = some ws) (hz : z ∈ ws) : valV (mergeK [] (numPr ls)) (Sum.inr z) = some (.int (i : Int)) := by
  have hk : ((numPr ls).map Prod.fst).Nodup := by
    unfold numPr
    rw [num_keys ls 0]
    exact nd.map _ fun _ _ h e => h (Sum.inr.inj e)
  rw [merge_nodup _ _ (by rw [List.nil_append]; exact hk), List.nil_append]
  refine val_mem hk ?_
  unfold numPr
  refine List.mem_flatMap.mpr ⟨(ws, i), ?_, List.mem_map.mpr ⟨z, hz, rfl⟩⟩
  exact List.mem_iff_getElem?.mpr ⟨i, by rw [List.getElem?_zipIdx, hi]; simp⟩
theorem srtCs_perm {cs : List (Str × Nat)} (g : GoodCs cs) : (srtCs cs).Perm cs := by
  unfold srtCs
  have e : (cs.map Prod.fst).map (fun z => (z, sizeOfD cs z)) = cs := by
    rw [List.map_map]
    conv => rhs; rw [← List.map_id cs]
    refine List.map_congr_left fun c hc => ?_
    show (c.1, sizeOfD cs c.1) = c
    unfold sizeOfD
    rw [size_of_mem g.nd hc]
    rfl
  exact ((srt_perm (cs.map Prod.fst)).map _).trans (by rw [e])
end Vf


set_option maxRecDepth 100000
set_option maxHeartbeats 8000000
namespace Vf
open PySem PySem.Spec PyProof.Rows L2
/-- all but two -/
def But2 (p d : Addr) (H1 H : Hp) : Prop := ∀ b o, b ≠ p → b ≠ d → H1 b = some o → H b = some o
theorem But2.trans {p d : Addr} {H1 H2 H3 : Hp} (a : But2 p d H1 H2) (s : But2 p d H2 H3) : But2 p d H1 H3 := fun b o h1 h2 e => s b o h1 h2 (a b o h1 h2 e)
theorem But.two {p d : Addr} {H1 H2 : Hp} (a : But p H1 H2) : But2 p d H1 H2 := fun b o h1 _ e => a b o h1 e
theorem Same.two {p d : Addr} {H1 H2 : Hp} (a : Same H1 H2) : But2 p d H1 H2 := fun b o _ _ e => a b o e
theorem But2.unlock {p d : Addr} {H H' : Hp} {u : HO} (a : But2 p d H H') (hd : H d = some u) : But p H (upd H' d u) := fun b o h1 e => by
  by_cases h : b = d
  · rw [h, hd] at e
    rw [h, upd_same]
    exact e
  · rw [upd_ne h]
    exact a b o h1 h e
theorem set_flat {ps : List (Addr × List Str)} : ∀ {k : Nat} {a L : Addr} {ws : List Str} {z : Str}, ps[k]? = some (a, ws) → ((ps.set k (L, ws ++ [z])).flatMap Prod.snd).Perm (ps.flatMap Prod.snd ++ [z]) := by
  induction ps with
  | nil => intro k a L ws z h; simp at h
  | cons q r ih =>
    intro k a L ws z h
    cases k with
    | zero =>
      obtain rfl : q = (a, ws) := Option.some.inj h
      rw [List.set_cons_zero, List.flatMap_cons, List.flatMap_cons, List.append_assoc, List.append_assoc]
      exact (List.perm_append_comm (l₁ := [z]) (l₂ := r.flatMap Prod.snd)).append_left ws
    | succ k =>
      rw [List.set_cons_succ, List.flatMap_cons, List.flatMap_cons, List.append_assoc]
      exact (ih (by simpa using h)).append_left q.2
theorem ixN_nat {n k : Nat} (h : k < n) : ixN n (k : Int) = some k := by
  unfold ixN
  rw [if_pos (by omega), if_pos (by omega)]
  simp
theorem total_app (cs : List (Str × Nat)) (a b : List Str) : total cs (a ++ b) = total cs a + total cs b := by
  unfold total
  rw [List.map_append, List.sum_append]
theorem total_one {cs : List (Str × Nat)} (g : GoodCs cs) {c : Str × Nat} (h : c ∈ cs) : total cs [c.1] = c.2 := by
  unfold total
  have : sizeOfD cs c.1 = c.2 := by unfold sizeOfD; rw [size_of_mem g.nd h]; rfl
  rw [List.map_cons, List.map_nil, List.sum_cons, List.sum_nil, this]
  rfl
theorem feed_ne {H : Hp} {p q : Addr} {ws : List Str} (f : FeedAt H p) (h : H q = some (.lst (ws.map V.str))) (hne : ws ≠ []) : q ≠ p := fun z => by
  obtain ⟨a, b, g, _⟩ := f
  rw [z, g] at h
  have e := HO.lst.inj (Option.some.inj h)
  cases ws with
  | nil => exact hne rfl
  | cons x r => cases (List.cons.inj e).1
section
variable {P : Program} {w : World} {K : PySem.W.Frag} {mg : Str → Option Value} {base : Heap}
/-- lines under way: the cells so far -/
structure HalfLines (H : Hp) (l p : Addr) (cs : List (Str × Nat)) (r i : Nat) (ps : List (Addr × List Str)) : Prop where
  at_ : H l = some (.lst (ps.map fun p => V.ref p.1))
  each : ∀ q ∈ ps, H q.1 = some (.lst (q.2.map V.str)) ∧ q.2 ≠ [] ∧ total cs q.2 ≤ r
  perm : (ps.flatMap Prod.snd).Perm ((cs.take i).map Prod.fst)
theorem HalfLines.ne {H : Hp} {l p : Addr} {cs : List (Str × Nat)} {r i : Nat} {ps : List (Addr × List Str)} (h : HalfLines H l p cs r i ps) {q : Addr × List Str} (hq : q ∈ ps) : q.1 ≠ l := fun z => by
  obtain ⟨e, hne, _⟩ := h.each q hq
  rw [z, h.at_] at e
  have e2 := HO.lst.inj (Option.some.inj e)
  cases e3 : q.2 with
  | nil => exact hne e3
  | cons x r =>
    rw [e3] at e2
    cases ps with
    | nil => cases hq
    | cons y ys => cases (List.cons.inj e2).1
theorem HalfLines.same {H H' : Hp} {l p : Addr} {cs : List (Str × Nat)} {r i : Nat} {ps : List (Addr × List Str)} (h : HalfLines H l p cs r i ps) (s : Same H H') : HalfLines H' l p cs r i ps :=
  ⟨s _ _ h.at_, fun q hq => ⟨s _ _ (h.each q hq).1, (h.each q hq).2⟩, h.perm⟩
theorem take_names {cs : List (Str × Nat)} {i : Nat} {c : Str × Nat} (hc : cs[i]? = some c) : (cs.take (i + 1)).map Prod.fst = (cs.take i).map Prod.fst ++ [c.1] := by
  rw [List.take_add_one, hc, List.map_append]
  rfl
theorem HalfLines.more {H : Hp} {l p n : Addr} {cs : List (Str × Nat)} {r i : Nat} {ps : List (Addr × List Str)} {c : Str × Nat} (h : HalfLines H l p cs r i ps) (g : GoodCs cs) (hc : cs[i]? = some c) (hr : maxOf cs ≤ r) (hn : H n = none) :
    HalfLines (upd (upd H n (.lst [.str c.1])) l (.lst ((ps.map fun q => V.ref q.1) ++ [.ref n]))) l p cs r (i + 1) (ps ++ [(n, [c.1])]) := by
  have hln : n ≠ l := (ne_of_none h.at_ hn).symm
  refine ⟨by rw [upd_same, List.map_append]; rfl, fun q hq => ?_, ?_⟩
  · rcases List.mem_append.mp hq with hq | hq
    · exact ⟨by rw [upd_ne (h.ne hq)]; exact same_new hn _ _ (h.each q hq).1, (h.each q hq).2⟩
    · obtain rfl := List.mem_singleton.mp hq
      refine ⟨by rw [upd_ne hln, upd_same]; rfl, by simp, ?_⟩
      show total cs [c.1] ≤ r
      rw [total_one g (List.mem_of_getElem? hc)]
      exact Nat.le_trans (size_le_max (List.mem_of_getElem? hc)) hr
  · rw [List.flatMap_append, take_names hc]
    exact h.perm.append (by simp)
theorem HalfLines.put {H : Hp} {l p a L : Addr} {cs : List (Str × Nat)} {r i k : Nat} {ps : List (Addr × List Str)} {ws : List Str} {c : Str × Nat} (h : HalfLines H l p cs r i ps) (hc : cs[i]? = some c) (hk : ps[k]? = some (a, ws)) (hL : H L = some (.lst ((ws ++ [c.1]).map V.str))) (hne : L ≠ l)
    (ht : total cs (ws ++ [c.1]) ≤ r) : HalfLines (upd H l (.lst ((ps.map fun q => V.ref q.1).set k (.ref L)))) l p cs r (i + 1) (ps.set k (L, ws ++ [c.1])) := by
  refine ⟨by rw [upd_same, List.map_set], fun q hq => ?_, ?_⟩
  · rcases List.mem_or_eq_of_mem_set hq with hq | rfl
    · exact ⟨by rw [upd_ne (h.ne hq)]; exact (h.each q hq).1, (h.each q hq).2⟩
    · exact ⟨by rw [upd_ne hne]; exact hL, by simp, ht⟩
  · rw [take_names hc]
    exact (set_flat hk).trans (h.perm.append_right _)
end
end Vf

set_option maxRecDepth 100000
set_option maxHeartbeats 8000000
namespace Vf
open PySem PySem.Spec PyProof.Rows L2
theorem total_same {cs : List (Str × Nat)} {a b : List Str} (p : a.Perm b) : total cs a = total cs b := (p.map _).sum_nat
theorem total_sub {a : List (Str × Nat)} (f : Str → Bool) : ∀ ws : List Str, total a (ws.filter f) ≤ total a ws
  | [] => Nat.le_refl _
  | z :: ws => by
    have h2 := total_sub (a := a) f ws
    unfold total at h2 ⊢
    rw [List.map_cons, List.sum_cons, List.filter_cons]
    split
    · rw [List.map_cons, List.sum_cons]
      omega
    · omega
theorem perm_out {z : Str} : ∀ {l : List Str}, l.Nodup → z ∈ l → (l.filter (fun y => decide (y ≠ z)) ++ [z]).Perm l
  | [], _, h => by cases h
  | a :: r, nd, h => by
    have nd' := List.nodup_cons.mp nd
    rw [List.filter_cons]
    by_cases e : a = z
    · subst e
      have e2 : r.filter (fun y => decide (y ≠ a)) = r := List.filter_eq_self.mpr fun y hy => decide_eq_true fun q : y = a => nd'.1 (by rw [← q]; exact hy)
      rw [if_neg (by simp), e2]
      exact List.perm_append_comm (l₁ := r) (l₂ := [a])
    · rw [if_pos (decide_eq_true e)]
      have hz : z ∈ r := (List.mem_cons.mp h).resolve_left fun q => e q.symm
      exact (perm_out nd'.2 hz).cons a
/-- lines of a layout, in order -/
structure LsOk (cs : List (Str × Nat)) (r : Nat) (ls : List (List Str)) : Prop where
  perm : ls.flatten.Perm (cs.map Prod.fst)
  ne : ∀ ws ∈ ls, ws ≠ []
  tot : ∀ ws ∈ ls, total cs ws ≤ r
  ord : sortL (ls.map srt) = ls
theorem lines_flat (ps : List (Addr × List Str)) : (linesOf ps).flatten.Perm (ps.flatMap Prod.snd) := by
  have p1 : (linesOf ps).flatten.Perm (ps.map fun p => srt p.2).flatten := (sortL_perm _).flatten
  have p2 : ∀ ps : List (Addr × List Str), (ps.map fun p => srt p.2).flatten.Perm (ps.flatMap Prod.snd) := fun ps => by
    induction ps with
    | nil => exact .nil
    | cons a r ih =>
      rw [List.map_cons, List.flatten_cons, List.flatMap_cons]
      exact (srt_perm a.2).append ih
  exact p1.trans (p2 ps)
theorem lines_mem {ps : List (Addr × List Str)} {ws : List Str} (h : ws ∈ linesOf ps) : ∃ p ∈ ps, ws = srt p.2 := by
  obtain ⟨p, hp, e⟩ := List.mem_map.mp ((sortL_perm _).mem_iff.mp h)
  exact ⟨p, hp, e.symm⟩
theorem sortL_srt {l : List (List Str)} (h : ∀ ws ∈ l, srt ws = ws) : (sortL l).map srt = sortL l := by
  conv => rhs; rw [← List.map_id (sortL l)]
  exact List.map_congr_left fun ws hw => h ws ((sortL_perm l).mem_iff.mp hw)
theorem lines_ord (ps : List (Addr × List Str)) : sortL ((linesOf ps).map srt) = linesOf ps := by
  unfold linesOf
  rw [sortL_srt fun ws hw => by obtain ⟨p, _, rfl⟩ := List.mem_map.mp hw; exact srt_srt _]
  exact sortL_same (sortL_perm _)
theorem srt_ne {ws : List Str} (h : ws ≠ []) : srt ws ≠ [] := fun e => h (by
  have := (srt_perm ws).length_eq
  rw [e] at this
  exact List.length_eq_zero_iff.mp this.symm)
theorem InLines.ok {H : Hp} {l : Addr} {cs : List (Str × Nat)} {r : Nat} {ps : List (Addr × List Str)} (il : InLines H l cs r ps) : LsOk cs r (linesOf ps) := by
  refine ⟨(lines_flat ps).trans il.perm, fun ws hw => ?_, fun ws hw => ?_, lines_ord ps⟩
  · obtain ⟨p, hp, rfl⟩ := lines_mem hw
    exact srt_ne (il.each p hp).2.1
  · obtain ⟨p, hp, rfl⟩ := lines_mem hw
    rw [total_same (srt_perm p.2)]
    exact (il.each p hp).2.2
def dropZ (z : Str) (ls : List (List Str)) : List (List Str) := ls.map fun ws => ws.filter fun y => decide (y ≠ z)
def putAt (f : List (List Str)) (i : Nat) (z : Str) : List (List Str) := f.set i (f.getD i [] ++ [z])
def full (ls : List (List Str)) : List (List Str) := ls.filter fun ws => decide (ws ≠ [])
/-- the lines behind a move of z to the line i, if it has room -/
def moveL (cs : List (Str × Nat)) (r : Nat) (ls : List (List Str)) (z : Str) (i : Nat) : Option (List (List Str)) :=
  if z ∈ ls.getD i [] then some ls
  else if total cs ((dropZ z ls ++ [[]]).getD i [] ++ [z]) ≤ r then some (full (putAt (dropZ z ls ++ [[]]) i z)) else none
def moveO (cs : List (Str × Nat)) (r : Nat) (ls : List (List Str)) (z : Str) : Option Int → Option (List (List Str))
  | none => none
  | some i => if 0 ≤ i ∧ i ≤ (ls.length : Int) then moveL cs r ls z i.toNat else none
theorem drop_none {z : Str} {ls : List (List Str)} (h : ∀ ws ∈ ls, z ∉ ws) : dropZ z ls = ls := by
  unfold dropZ
  conv => rhs; rw [← List.map_id ls]
  refine List.map_congr_left fun ws hw => ?_
  exact List.filter_eq_self.mpr fun y hy => decide_eq_true fun e : y = z => h ws hw (e ▸ hy)
theorem erase_drop {z : Str} : ∀ {ls : List (List Str)} {j : Nat} {ws : List Str}, ls.flatten.Nodup → ls[j]? = some ws → z ∈ ws → ls.set j (ws.erase z) = dropZ z ls
  | [], _, _, _, h, _ => by simp at h
  | a :: ls, 0, ws, nd, h, hz => by
    obtain rfl : a = ws := by simpa using h
    rw [List.flatten_cons, List.nodup_append] at nd
    have e : dropZ z ls = ls := drop_none fun u hu hzu => nd.2.2 z hz z (List.mem_flatten.mpr ⟨u, hu, hzu⟩) rfl
    show a.erase z :: ls = _
    unfold dropZ at e ⊢
    rw [List.map_cons, e, nd.1.erase_eq_filter]
    congr 1
    refine List.filter_congr fun y _ => ?_
    by_cases q : y = z
    · simp [q]
    · simp [q]
  | a :: ls, j + 1, ws, nd, h, hz => by
    rw [List.flatten_cons, List.nodup_append] at nd
    have hm : ws ∈ ls := List.mem_of_getElem? (by simpa using h)
    have ha : z ∉ a := fun q => nd.2.2 z q z (List.mem_flatten.mpr ⟨ws, hm, hz⟩) rfl
    rw [List.set_cons_succ, erase_drop nd.2.1 (by simpa using h) hz]
    unfold dropZ
    rw [List.map_cons]
    congr 1
    have e9 : a.filter (fun y => decide (y ≠ z)) = a := List.filter_eq_self.mpr fun y hy => decide_eq_true fun e : y = z => ha (e ▸ hy)
    exact e9.symm
theorem drop_flat (z : Str) : ∀ ls : List (List Str), (dropZ z ls).flatten = ls.flatten.filter fun y => decide (y ≠ z)
  | [] => rfl
  | a :: ls => by
    have := drop_flat z ls
    unfold dropZ at this ⊢
    rw [List.map_cons, List.flatten_cons, List.flatten_cons, List.filter_append, this]
theorem put_flat {z : Str} : ∀ {f : List (List Str)} {i : Nat}, i < f.length → (putAt f i z).flatten.Perm (f.flatten ++ [z])
  | [], _, h => by simp at h
  | a :: f, 0, _ => by
    show ((a ++ [z]) ++ f.flatten).Perm (a ++ f.flatten ++ [z])
    rw [List.append_assoc, List.append_assoc]
    exact (List.perm_append_comm (l₁ := [z]) (l₂ := f.flatten)).append_left a
  | a :: f, i + 1, h => by
    have := put_flat (z := z) (f := f) (i := i) (by simpa using h)
    show (a ++ (putAt f i z).flatten).Perm (a ++ f.flatten ++ [z])
    rw [List.append_assoc]
    exact this.append_left a
theorem full_flat2 : ∀ ls : List (List Str), (full ls).flatten = ls.flatten
  | [] => rfl
  | [] :: ls => by
    have := full_flat2 ls
    unfold full at this ⊢
    rw [List.filter_cons_of_neg (by simp), this]
    rfl
  | (a :: b) :: ls => by
    have := full_flat2 ls
    unfold full at this ⊢
    rw [List.filter_cons_of_pos (by simp), List.flatten_cons, List.flatten_cons, this]
theorem full_ne {ls : List (List Str)} {ws : List Str} (h : ws ∈ full ls) : ws ≠ [] := of_decide_eq_true (List.mem_filter.mp h).2
theorem drop_get {z : Str} {ls : List (List Str)} {i : Nat} : (dropZ z ls ++ [[]]).getD i [] = (ls.getD i []).filter fun y => decide (y ≠ z) := by
  unfold dropZ
  rw [List.getD_eq_getElem?_getD, List.getD_eq_getElem?_getD]
  by_cases h : i < ls.length
  · rw [List.getElem?_append_left (by simpa using h), List.getElem?_map]
    cases ls[i]? with
    | none => rfl
    | some a => rfl
  · rw [List.getElem?_append_right (by simp; omega), List.getElem?_eq_none (l := ls) (by omega)]
    generalize i - (ls.map fun ws => ws.filter fun y => decide (y ≠ z)).length = k
    cases k with
    | zero => rfl
    | succ k => simp
/-- what a move makes: all the cells, in lines with room -/
theorem put_good {cs : List (Str × Nat)} {r : Nat} {ls : List (List Str)} {z : Str} {i : Nat} (o : LsOk cs r ls) (g : GoodCs cs) (hz : z ∈ cs.map Prod.fst) (hi : i ≤ ls.length) (hr : total cs ((dropZ z ls ++ [[]]).getD i [] ++ [z]) ≤ r) :
    (full (putAt (dropZ z ls ++ [[]]) i z)).flatten.Perm (cs.map Prod.fst) ∧ ∀ ws ∈ full (putAt (dropZ z ls ++ [[]]) i z), ws ≠ [] ∧ total cs ws ≤ r := by
  have nd : ls.flatten.Nodup := o.perm.nodup_iff.mpr g.nd
  refine ⟨?_, fun ws hw => ⟨full_ne hw, ?_⟩⟩
  · rw [full_flat2]
    refine (put_flat (by rw [List.length_append]; unfold dropZ; rw [List.length_map]; show i < ls.length + 1; omega)).trans ?_
    rw [List.flatten_append, drop_flat]
    show (ls.flatten.filter _ ++ [] ++ [z]).Perm _
    rw [List.append_nil]
    exact (perm_out nd (o.perm.mem_iff.mpr hz)).trans o.perm
  · have hw' := (List.mem_filter.mp hw).1
    unfold putAt at hw'
    rcases List.mem_or_eq_of_mem_set hw' with h | rfl
    · rcases List.mem_append.mp h with h | h
      · obtain ⟨u, hu, rfl⟩ := List.mem_map.mp h
        exact Nat.le_trans (total_sub _ u) (o.tot u hu)
      · rw [List.mem_singleton.mp h]
        exact Nat.zero_le _
    · exact hr
theorem get_in {ls : List (List Str)} {i : Nat} {z : Str} (h : z ∈ ls.getD i []) : ∃ ws, ls[i]? = some ws ∧ z ∈ ws := by
  rw [List.getD_eq_getElem?_getD] at h
  cases e : ls[i]? with
  | none => rw [e] at h; cases h
  | some ws => rw [e] at h; exact ⟨ws, rfl, h⟩
/-- the program's lines are those of the move, in order -/
theorem move_eq {cs : List (Str × Nat)} {r : Nat} {ls m : List (List Str)} {z : Str} {i : Nat} (o : LsOk cs r ls) (g : GoodCs cs) (h : moveL cs r ls z i = some m) :
    total cs ((dropZ z ls ++ [[]]).getD i [] ++ [z]) ≤ r ∧ sortL ((full (putAt (dropZ z ls ++ [[]]) i z)).map srt) = sortL (m.map srt) := by
  have nd : ls.flatten.Nodup := o.perm.nodup_iff.mpr g.nd
  unfold moveL at h
  by_cases hz : z ∈ ls.getD i []
  · rw [if_pos hz] at h
    obtain rfl : ls = m := Option.some.inj h
    obtain ⟨ws, hw, hzw⟩ := get_in hz
    have hm := List.mem_of_getElem? hw
    have nw : ws.Nodup := nd.sublist (List.sublist_flatten_of_mem hm)
    have e : ls.getD i [] = ws := by rw [List.getD_eq_getElem?_getD, hw]; rfl
    have po := perm_out nw hzw
    refine ⟨by rw [drop_get, e, total_same po]; exact o.tot ws hm, ?_⟩
    have hl : i < ls.length := (List.getElem?_eq_some_iff.mp hw).1
    have e2 : putAt (dropZ z ls ++ [[]]) i z = putAt (dropZ z ls) i z ++ [[]] := by
      have hl2 : i < (dropZ z ls).length := by unfold dropZ; rw [List.length_map]; exact hl
      unfold putAt
      rw [List.set_append_left _ _ hl2, List.getD_eq_getElem?_getD, List.getElem?_append_left hl2, ← List.getD_eq_getElem?_getD]
    have e3 : (putAt (dropZ z ls) i z).map srt = ls.map srt := by
      rw [← erase_drop nd hw hzw]
      unfold putAt
      rw [List.set_set, List.map_set, List.getD_eq_getElem?_getD, List.getElem?_set_self hl]
      have : srt (ws.erase z ++ [z]) = srt ws := srt_same (by
        have : ws.erase z = ws.filter fun y => decide (y ≠ z) := by
          rw [nw.erase_eq_filter]
          refine List.filter_congr fun y _ => ?_
          by_cases q : y = z
          · simp [q]
          · simp [q]
        rw [this]
        exact po)
      show (ls.map srt).set i (srt (ws.erase z ++ [z])) = _
      rw [this]
      refine List.ext_getElem? fun k => ?_
      by_cases hk : k = i
      · subst hk
        rw [List.getElem?_set_self (by rw [List.length_map]; exact hl), List.getElem?_map, hw]
        rfl
      · rw [List.getElem?_set_ne (Ne.symm hk)]
    have ne : ∀ ws ∈ putAt (dropZ z ls) i z, ws ≠ [] := fun u hu e4 => by
      have : srt u ∈ ls.map srt := by rw [← e3]; exact List.mem_map_of_mem hu
      obtain ⟨v, hv, ev⟩ := List.mem_map.mp this
      have h1 := (srt_perm u).length_eq
      have h2 := (srt_perm v).length_eq
      rw [ev] at h2
      rw [(srt_perm u).length_eq, e4] at h2
      exact o.ne v hv (List.length_eq_zero_iff.mp h2.symm)
    rw [e2]
    unfold full
    rw [List.filter_append, List.filter_eq_self.mpr fun u hu => decide_eq_true (ne u hu)]
    show sortL ((putAt (dropZ z ls) i z ++ []).map srt) = _
    rw [List.append_nil, e3]
  · rw [if_neg hz] at h
    by_cases hr : total cs ((dropZ z ls ++ [[]]).getD i [] ++ [z]) ≤ r
    · rw [if_pos hr] at h
      exact ⟨hr, by rw [← Option.some.inj h]⟩
    · rw [if_neg hr] at h
      cases h
theorem move_no {cs : List (Str × Nat)} {r : Nat} {ls : List (List Str)} {z : Str} {i : Nat} (h : moveL cs r ls z i = none) : ¬ total cs ((dropZ z ls ++ [[]]).getD i [] ++ [z]) ≤ r := by
  unfold moveL at h
  by_cases hz : z ∈ ls.getD i []
  · rw [if_pos hz] at h
    cases h
  · rw [if_neg hz] at h
    by_cases hr : total cs ((dropZ z ls ++ [[]]).getD i [] ++ [z]) ≤ r
    · rw [if_pos hr] at h
      cases h
    · exact hr
theorem num_none {ls : List (List Str)} (nd : ls.flatten.Nodup) {z : Str} (hz : z ∉ ls.flatten) : valV (mergeK [] (numPr ls)) (Sum.inr z) = none := by
  have hk : ((numPr ls).map Prod.fst).Nodup := by
    unfold numPr
    rw [num_keys ls 0]
    exact nd.map _ fun _ _ h e => h (Sum.inr.inj e)
  rw [merge_nodup _ _ (by rw [List.nil_append]; exact hk), List.nil_append]
  refine val_none fun h => ?_
  unfold numPr at h
  rw [num_keys ls 0] at h
  obtain ⟨y, hy, e⟩ := List.mem_map.mp h
  exact hz (Sum.inr.inj e ▸ hy)
theorem size_srtCs {cs : List (Str × Nat)} (g : GoodCs cs) (z : Str) : sizeOfD (srtCs cs) z = sizeOfD cs z := by
  have p := srtCs_perm g
  have g2 : ((srtCs cs).map Prod.fst).Nodup := (p.map Prod.fst).nodup_iff.mpr g.nd
  by_cases h : z ∈ cs.map Prod.fst
  · obtain ⟨c, hc, rfl⟩ := List.mem_map.mp h
    unfold sizeOfD
    rw [size_of_mem g.nd hc, size_of_mem g2 (p.mem_iff.mpr hc)]
  · have no : ∀ l : List (Str × Nat), z ∉ l.map Prod.fst → sizeOf? l z = none := fun l hl => by
      unfold sizeOf?
      rw [List.find?_eq_none.mpr fun c hc e => hl (List.mem_map.mpr ⟨c, hc, of_decide_eq_true e⟩)]
      rfl
    unfold sizeOfD
    rw [no _ h, no _ fun q => h ((p.map Prod.fst).mem_iff.mp q)]
theorem total_srtCs {cs : List (Str × Nat)} (g : GoodCs cs) : total (srtCs cs) = total cs := by
  funext ws
  unfold total
  exact congrArg List.sum (List.map_congr_left fun z _ => size_srtCs g z)
theorem move_srtCs {cs : List (Str × Nat)} (g : GoodCs cs) {r : Nat} {ls : List (List Str)} {z : Str} {o : Option Int} : moveO (srtCs cs) r ls z o = moveO cs r ls z o := by
  cases o with
  | none => rfl
  | some i =>
    unfold moveO moveL
    rw [total_srtCs g]
end Vf

set_option maxRecDepth 100000
set_option maxHeartbeats 4000000
namespace Vf
open PySem PySem.Spec PyProof.Rows L2
theorem TyOf.same {K : PySem.W.Frag} {H H' : Hp} {v : V} {t : Value} (h : TyOf K H v t) (s : Same H H') : TyOf K H' v t := by
  cases h with
  | non => exact .non
  | bl x => exact .bl x
  | int i => exact .int i
  | str x => exact .str x
  | flt x => exact .flt x
  | lst e => exact .lst (s _ _ e)
  | frz e => exact .frz (s _ _ e)
  | tup e => exact .tup (s _ _ e)
  | dK e => exact .dK (s _ _ e)
  | dT e => exact .dT (s _ _ e)
  | ins e cl ha hn htk hm => exact .ins (s _ _ e) cl ha hn htk hm
theorem TyX.same {K : PySem.W.Frag} {H H' : Hp} {v : V} {t : Value} (h : TyX K H v t) (s : Same H H') : TyX K H' v t := by
  cases h with
  | base b => exact .base (TyOf.same b s)
  | byt b => exact .byt b
  | set e => exact .set (s _ _ e)
  | kList e c => exact .kList e c
  | kTuple e c => exact .kTuple e c
  | kDict e c => exact .kDict e c
  | fTuple e => exact .fTuple (s _ _ e)
  | fDict e => exact .fDict (s _ _ e)
/-- isinstance(v, T) is False -/
def NoT (T : String) (K : PySem.W.Frag) (H : Hp) (v : V) : Prop := ∃ t, TyX K H v t ∧ PySem.W.kitOne K t (.type T) = some false
theorem NoT.same {T : String} {K : PySem.W.Frag} {H H' : Hp} {v : V} (h : NoT T K H v) (s : Same H H') : NoT T K H' v := by
  obtain ⟨t, ty, k⟩ := h
  exact ⟨t, TyX.same ty s, k⟩
/-- the number that a value is, if it is an int and no bool -/
inductive IntV (K : PySem.W.Frag) (H : Hp) : V → Option Int → Prop
  | int (i : Int) : IntV K H (.int i) (some i)
  | bl (b : Bool) : IntV K H (.bl b) none
  | no {v : V} : NoT "int" K H v → IntV K H v none
theorem IntV.same {K : PySem.W.Frag} {H H' : Hp} {v : V} {o : Option Int} (h : IntV K H v o) (s : Same H H') : IntV K H' v o := by
  cases h with
  | int i => exact .int i
  | bl b => exact .bl b
  | no h => exact .no (h.same s)
section
variable {K : PySem.W.Frag} {H : Hp}
theorem no_non {T : String} (h : kitB "NoneType" T = some false) : NoT T K H .non := ⟨_, .base .non, kit_ty h⟩
theorem no_int {T : String} {i : Int} (h : kitB "int" T = some false) : NoT T K H (.int i) := ⟨_, .base (.int i), kit_ty h⟩
theorem no_bl {T : String} {b : Bool} (h : kitB "bool" T = some false) : NoT T K H (.bl b) := ⟨_, .base (.bl b), kit_ty h⟩
theorem no_str {T : String} {z : Str} (h : kitB "str" T = some false) : NoT T K H (.str z) := ⟨_, .base (.str z), kit_ty h⟩
theorem no_lst {T : String} {a : Addr} {xs : List V} (e : H a = some (.lst xs)) (h : kitB "list" T = some false) : NoT T K H (.ref a) := ⟨_, .base (.lst e), kit_ty h⟩
theorem no_tup {T : String} {a : Addr} {xs : List V} (e : H a = some (.tup xs)) (h : kitB "tuple" T = some false) : NoT T K H (.ref a) := ⟨_, .base (.tup e), kit_ty h⟩
theorem no_dK {T : String} {a : Addr} {kvs : List (Key × V)} (e : H a = some (.dK kvs)) (h : kitB "dict" T = some false) : NoT T K H (.ref a) := ⟨_, .base (.dK e), kit_ty h⟩
end
end Vf

set_option maxRecDepth 100000
set_option maxHeartbeats 4000000
namespace Vf
open PySem PySem.Spec PyProof.Rows L2 NdefX
section
variable {CX : CXT} {P : Program} {w : World} {K : PySem.W.Frag} {mg : Str → Option Value} {base : Heap} {N ps : List Str} {F : NF} {f C c0 : Addr} {k : Nat} {sp : Sp}
theorem cell_at {H : Hp} {s : Shared} {A : Around} {outer : List Env} (e0 : Env0 P w K mg base A outer s H) (hcl : F.cl = [(("__class__" : Str), c0)]) (has : ∃ o, K.lookup c0 = some o) (cell : ∀ h : Heap, K.In h → h.IsCell c0 (some (.ref C))) :
    CellsAt F.cl ["__class__"] [some (.ref C)] s.heap H := by
  have kin := e0.mod.kin.keeps fun b o e => (e0.bs b o e).1
  obtain ⟨o, ho⟩ := has
  have away : H c0 = none := (e0.bs _ _ (e0.mod.kin _ _ ho)).2
  rw [hcl]
  refine ⟨rfl, fun y c hy => ?_, fun x y c hx hy => ?_, fun i y hi => ?_⟩
  · rw [List.lookup_cons] at hy
    split at hy
    · obtain rfl := Option.some.inj hy
      exact ⟨away, _, cell _ kin⟩
    · cases hy
  · rw [List.lookup_cons] at hx hy
    split at hx
    · rename_i ex
      split at hy
      · rename_i ey
        rw [beq_iff_eq.mp ex, beq_iff_eq.mp ey]
      · cases hy
    · cases hx
  · match i, hi with
    | 0, hi =>
      obtain rfl := Option.some.inj hi
      refine ⟨c0, by rw [List.lookup_cons_self], fun v hv => ?_⟩
      obtain rfl : V.ref C = v := by simpa using hv
      exact ⟨.ref C, rfl, cell _ kin⟩
    | _ + 1, hi => cases hi
/-- the def by its body -/
theorem ok_clo {oc : Value} {od : Option Addr} {osl : Array (Option Value)} {doc pm ctv : Value} (look : K.lookup f = some ⟨oc, od, .func (F.fd doc pm ctv), osl⟩) (code : PySem.W.codeIn K (.ref F.c) F.qual = true)
    (hcl : F.cl = [(("__class__" : Str), c0)]) (has : ∃ o, K.lookup c0 = some o) (cell : ∀ h : Heap, K.In h → h.IsCell c0 (some (.ref C))) (S : NScope N ps ["__class__"] F.scope) (hlen : ∀ vs H Q E, sp vs H Q E → vs.length = ps.length)
    (hbody : ∀ (A : Around) (outer : List Env) (s : Shared) (H : Hp) (vs : List V) (Q : VK) (E : XK), Room k (A.deeper (envF F f s.heap.objs.size)) → sp vs H Q E →
      ∃ t, PSs (ncx CX P w K mg base N F f A outer s H E) F.body t ∧ t { nx := fun _ H' => Q .non H', rt := Q } (startF N vs [some (.ref C)]) H) :
    FnOk P w K mg base CX (k + 1) f (F.fd doc pm ctv) ps sp := by
  refine ⟨hlen, fun A outer s H args us vs Q E room e0 bnd rel q => ?_⟩
  have below := fun b o (e : base.get? b = some o) => (e0.bs b o e).1
  have kin := e0.mod.kin.keeps below
  refine codeAny_call_function room.depth (kin _ _ look) rfl S.co S.gen rfl (PySem.W.codeRec_of kin code) (bnd _ _ _ _ ?_)
  refine wpAny_newFunctionEnv S.nocell (fun ⟨n, _⟩ hy => S.par n (List.of_mem_zip hy).1) (fun h₁ made grown => ⟨(e0.mod.nolimit.keeps below).fresh _ grown, ?_⟩) S.kind
  show codeAny _ _ (.func F.body (envF F f s.heap.objs.size)) _ _
  refine codeAny_func ?_
  have keep : ∀ b o, s.heap.get? b = some o → h₁.get? b = some o := fun b o e => grown.extBut b o (Nat.ne_of_lt (Heap.lt_size e)) (Heap.get?_push_of_some _ e)
  obtain ⟨t, hps, ht⟩ := hbody A outer s H vs Q E (room.deeper _) q
  have inv := inv_startN (CX := CX) (mg := mg) (f := f) (E := E) (tk := s.toks + (ps.zip us).length) S room.hd e0 (hlen _ _ _ _ q) rel (cell_at (F := F) e0 hcl has cell) made keep
  refine wpAny_mono (hps.run [] _ (startF N vs [some (.ref C)]) H _ inv ht) (fun fl s' out => ?_) fun _ _ out => out
  cases fl with
  | next =>
    obtain ⟨σ', H', J, q'⟩ := out
    exact ⟨V.non, H', J.os, J.bare, J.base, J.hok, rfl, q'⟩
  | ret u =>
    obtain ⟨v, σ', H', J, rv, q'⟩ := out
    exact ⟨v, H', J.os, J.bare, J.base, J.hok, rv, q'⟩
  | brk =>
    obtain ⟨_, _, _, no⟩ := out
    exact False.elim no
  | cont =>
    obtain ⟨_, _, _, no⟩ := out
    exact False.elim no
end
end Vf

set_option maxRecDepth 100000
set_option maxHeartbeats 4000000
namespace Vf
open PySem PySem.Spec PyProof.Rows L2 NdefX
/-- what the written part says of the error class at C, whose __init__ is F, with its cell at c0 -/
structure SupC (P : Program) (K : PySem.W.Frag) (mg : Str → Option Value) (F : NF) (C c0 : Addr) : Prop where
  ox : OexC K C
  hcl : F.cl = [(("__class__" : Str), c0)]
  cell : ∃ cl cld csl, K.lookup c0 = some ⟨cl, cld, .cell (some (.ref C)), csl⟩
  code : ∃ ccl cdd vs ccs file tf, K.lookup F.c = some ⟨ccl, cdd, .fields vs, ccs⟩ ∧ vs[2]? = some (.str file tf) ∧ ((P.main.file : Str) == file) = true
  sub : PySem.W.mroIn K C (.ref C) = some true
  up : PySem.W.ks_superIn K C C "__init__" = some (some (.builtin "ValueError.__init__"))
  isV : PySem.W.subIn K (.ref C) (.type "ValueError") = some true
  any : PySem.W.nsIn K cStatics "thirdparty.any" = some none
  top : (P.main.scope.names.lookup ("super" : Str)).isSome = false
  mg : mg "super" = none
section
variable {X : Cx} {pins : List (Addr × Obj)} {σ : L2.St} {H : Hp} {s : Shared} {a C : Addr} {A : Around} {E : Value → Shared → Prop}
theorem bw_ok {u : Addr} {us : List Value} {Q : Value → Shared → Prop} (T : OexC X.K C) (I : Inv X pins σ H s) (e : H a = some (exo a C none)) (hu : s.heap.get? u = some (PySem.W.kxs_mw "ValueError.__init__" a)) (hl : us.length ≤ sizeLine)
    (h : ∀ s', Inv X pins σ H s' → Q .none s') : wpAny (model X.prog X.w) A (call (.ref u) us) Q E s := by
  obtain ⟨nm, q, N, bs, bm, sn, sub, ab, col, dd, k0, k1, k2, k3, k5, hC, hbm⟩ := T.cls
  obtain ⟨t1, ho⟩ := exo_at I.hok e
  obtain ⟨hp, g, d, t, os⟩ := s
  refine wpAny_call (codeAny_of_tree ?_)
  show wpAny _ A.in1 (callAny (.ref u) ⟨us, []⟩) _ _ _
  simp only [callAny]
  refine wpAny_bind (wpAny_load hu ?_)
  simp only [PySem.W.kxs_mw, show (Value.type "method-wrapper" == Value.type "method" || Value.type "method-wrapper" == Value.type "builtin_function_or_method" || Value.type "method-wrapper" == Value.type "method-wrapper") = true by decide, if_true]
  refine PySem.W.KFB.if_so (by decide) ?_
  refine wpAny_bind (PySem.W.check_bound_init F.excBase_ValueError.toExcCallFacts (I.kIn _ _ hC) ho rfl ?_)
  refine wpAny_bind (wpAny_pure (wpAny_pure ?_))
  refine ⟨plainId_quiet F.excBase_ValueError.init.plain _, codeAny_builtin F.excBase_ValueError.initEntry ?_⟩
  refine PySem.W.exc_init_tree (cls := .ref C) (t0 := t1) (dv := none) (c2 := .none) (c3 := .none) (b4 := .bool false) ho hl fun h' k hx _ => ?_
  have J := I.write (t' := t) (x := a) (e := a) (o := exo a C none) (by rw [e]; exact True.intro) (.inl rfl) k ⟨_, hx⟩ (exo_ok hx)
  have eu : upd H a (exo a C none) = H := by
    funext b
    by_cases hb : b = a
    · rw [hb, upd_same, e]
    · rw [upd_ne hb]
  rw [eu] at J
  exact h _ J
theorem callWith_mw {M : Model} {pos : Pos} {u x : Addr} {i : String} {env : Env} {e : Expr} {rest : List Expr} {Q : Value → Shared → Prop}
    (h : wpAny M A (spliced (backTo pos (starEach (e :: rest) env))) (fun vs s₁ => s₁.heap.get? u = some (PySem.W.kxs_mw i x) ∧ wpAny M A (call (.ref u) vs) Q E s₁) E s)
    (he : starEach (e :: rest) env = (false, eval e env) :: starEach rest env := by rfl) (hplain : (backTo pos (starEach rest env)).any (·.1) = false := by rfl) :
    wpAny M A (callWith pos (.ref u) [] (backTo pos (starEach (e :: rest) env)) []) Q E s := by
  rw [he] at h ⊢
  refine PySem.W.kxs_callWith (i := i) (x := x) (by show (false || (backTo pos (starEach rest env)).any (·.1)) = false; rw [hplain]; rfl) ?_
  exact Calls.evalArgs_plain h
theorem pin_new {o : Obj} (I : Inv X pins σ H s) (hd : ∀ v, o.data ≠ .cell v) (hfr : o.isFreed = false) (t : Nat) : Inv X ((s.heap.objs.size, o) :: pins) σ H { s with heap := s.heap.push o, toks := t } := by
  have k : ∀ b u, s.heap.get? b = some u → (s.heap.push o).get? b = some u := fun b u e => Heap.get?_push_of_some _ e
  have J : Inv X pins σ H { s with heap := s.heap.push o, toks := t } := I.kept k
  refine J.pins_of fun p hp => ?_
  rcases List.mem_cons.mp hp with rfl | hp
  · exact ⟨Heap.get?_push_at rfl hfr, I.hok.fresh (Nat.le_refl _), Nat.ne_of_gt I.lt, I.nofs (Nat.le_refl _), hd⟩
  · exact J.pin p (List.mem_append_right _ hp)
/-- super().__init__(e) in the __init__ of the error class C -/
theorem at_super {F : NF} {body : List Stmt} {f c0 : Addr} {doc pm ctv oc : Value} {od : Option Addr} {osl : Array (Option Value)} {sx : Str} {e : Expr} {es : List Expr} {ta : TA} {p0 p1 p2 p3 p4 : Pos} {Q : Flow → Shared → Prop}
    (S : SupC X.prog X.K X.mg F C c0) (I : Inv X pins σ H s) (henv : ∃ L, X.env = envF F f L) (look : X.K.lookup f = some ⟨oc, od, .func (F.fd doc pm ctv), osl⟩)
    (hp : (F.params.posonlyargs ++ F.params.args).head?.map (·.arg) = some sx) (hN : X.N[0]? = some sx) (hv : F.scope.names.lookup sx = some .local) (hks : F.scope.names.lookup ("super" : Str) = some .globalImplicit) (hkc : F.scope.names.lookup ("__class__" : Str) = some .free)
    (hs0 : σ[0]? = some (some (.ref a))) (ea : H a = some (exo a C none)) (hcd : (sx == ("__classdict__" : Str)) = false)
    (ha : PA X (e :: es) ta) (he : starEach (e :: es) X.env = (false, eval e X.env) :: starEach es X.env) (hpl : (backTo p3 (starEach es X.env)).any (·.1) = false)
    (hev : eval (.Call (.Attribute (.Call (.Name "super" p0) [] [] p1) "__init__" p2) (e :: es) [] p3) X.env = (do
      let ov ← attributeBase (.Call (.Name "super" p0) [] [] p1) "__init__" X.env (eval (.Call (.Name "super" p0) [] [] p1) X.env)
      standAt p2.atName
      let (f, first) ← holding [ov] (getMethod ov "__init__" (pure false))
      callWith p3 f first (backTo p3 (starEach (e :: es) X.env)) []))
    (hi : interactive X.env = false) (hsw : swapsWith (.Call (.Attribute (.Call (.Name "super" p0) [] [] p1) "__init__" p2) (e :: es) [] p3) none p4.line X.env = pure false)
    {R : List V → Hp → Prop} (h : ta σ H R) (hR : ∀ vs H1, R vs H1 → vs.length ≤ 1000 ∧ H1 a = some (exo a C none) ∧ ∀ s', Inv X pins σ H1 s' → Q .next s') :
    _root_.PySem.wpAt (model X.prog X.w) X.A (.func body X.env) (exec (.Expr (.Call (.Attribute (.Call (.Name "super" p0) [] [] p1) "__init__" p2) (e :: es) [] p3) p4) X.env) Q X.xe s := by
  obtain ⟨L, henv⟩ := henv
  obtain ⟨cl, cld, csl, hcell⟩ := S.cell
  obtain ⟨ccl, cdd, vs, ccs, file, tf, hcode, hvs, hfile⟩ := S.code
  obtain ⟨nm, q, N, bs, bm, sn, sub, ab, col, dd, k0, k1, k2, k3, k5, hC, hbm⟩ := S.ox.cls
  have hcd0 : ∃ cd, PySem.W.clsIn X.K C = some cd := by
    refine ⟨{ name := nm, bases := bs, mro := .ref C :: bm, ns := N, qualname := q, hasDict := true, slotNames := sn, subclasses := sub, abstract := ab, collection := col, hasDel := false }, ?_⟩
    unfold PySem.W.clsIn
    rw [hC] <;> rfl
  obtain ⟨cd, hclsC⟩ := hcd0
  have hks' : X.env.kindOf "super" = some .globalImplicit := by rw [henv]; exact hks
  have hkc' : X.env.kindOf "__class__" = some .free := by rw [henv]; exact hkc
  obtain ⟨ar, har, hars⟩ : ∃ ar, (F.params.posonlyargs ++ F.params.args).head? = some ar ∧ ar.arg = sx := by
    cases z : (F.params.posonlyargs ++ F.params.args).head? with
    | none => rw [z] at hp; cases hp
    | some ar => rw [z] at hp; exact ⟨ar, rfl, Option.some.inj hp⟩
  obtain ⟨hh, g, d, t, os⟩ := s
  have kin := I.kIn
  obtain ⟨t1, ho⟩ := exo_at I.hok ea
  refine PySem.ks_wpAt_Expr_any (PySem.ks_wpAt_MethodCall ?_ hev) hi hsw
  refine PySem.ks_wpAt_super_base (f := f) (cc := F.c) (fd := F.fd doc pm ctv) (ar := ar) hks' hkc' (by decide) (by rw [henv] <;> rfl) (kin _ _ look) rfl har (by rw [henv] <;> rfl) (kin _ _ hcode) rfl hvs hfile S.top ?_
  obtain ⟨mb, h1, h2⟩ := I.mod.blt
  refine PySem.W.ks_loadName_global I.ok.kind hks' (Calls.loadGlobal_builtin (by rw [I.ok.glob]; exact I.mod.glob.keeps I.bk) S.mg (by rw [I.ok.blt]; exact h1.keeps I.bk) ((h2 _ (by decide)).trans (by decide +kernel)) ⟨rfl, ?_⟩)
  have hc0 : X.env.cells.lookup ("__class__" : Str) = some c0 := by
    rw [henv]
    show F.cl.lookup ("__class__" : Str) = some c0
    rw [S.hcl, List.lookup_cons_self]
  refine wpAny_loadName_free I.ok.kind hkc' hc0 ⟨_, kin _ _ hcell, rfl⟩ ?_
  obtain ⟨m, hns, hlk⟩ := I.loc
  obtain ⟨u0, r0, l0⟩ := hlk 0 sx (.ref a) hN hs0 (by rw [henv]; exact .inl hv)
  obtain rfl : u0 = Value.ref a := r0
  have hkx : X.env.kindOf sx = some .local := by rw [henv]; exact hv
  have hm : m sx = some (.ref a) := by
    rcases l0 with ⟨_, hm⟩ | ⟨hk, _⟩
    · exact hm
    · rcases hk with hk | hk <;> rw [hkx] at hk <;> cases hk
  rw [hars]
  refine PySem.wpAny_loadName_local I.ok.kind hkx hns hm ?_
  refine PySem.ks_wpAny_isType_cls (kin _ _ hC) rfl ⟨rfl, ?_⟩
  refine PySem.ks_wpAny_call_super (kin _ _ hC) rfl ho rfl (fun c z => by cases z) (PySem.W.looks_mroIn kin S.sub) (fun h' e2 k => ?_)
  have I1 : Inv X pins σ H ⟨h', g, d, t, os⟩ := I.kept k
  have kin1 := I1.kIn
  have ho1 := k _ _ ho
  have IA : PySem.W.InstAt h' a ({ cls := .ref C, dict := none, data := .fields #[.ref t1, .none, .none, .none, .bool false, .none] } : Obj) C none := ⟨ho1, rfl, rfl, trivial⟩
  have hup := S.up
  unfold PySem.W.ks_superIn at hup
  rw [hclsC] at hup
  refine PySem.W.kxs_getMethod PySem.W.kxs_ValueError e2 (PySem.W.looks_opaque kin1 S.any) (l₀ := cd.mro) (fun A Q E s k q => wpAny_bind ((PySem.W.looks_clsIn kin1 hclsC) A _ E s k (wpAny_pure q))) rfl kin1 hup (IA.type.andThen (PySem.W.looks_subIn kin1 S.isV)) (PySem.W.ks_ne kin1 IA hclsC) (by decide) ?_
  have I2 := pin_new (o := PySem.W.kxs_mw "ValueError.__init__" a) I1 (fun v z => by cases z) rfl (t + 1)
  refine callWith_mw (i := "ValueError.__init__") (x := a) (thn (ha.run p3 _ _ σ H _ I2 h) fun us s1 ⟨vs1, H1, J, rv, hr1⟩ => ?_) he hpl
  obtain ⟨hl, ea1, q1⟩ := hR _ _ hr1
  refine ⟨(J.pin (h'.objs.size, PySem.W.kxs_mw "ValueError.__init__" a) (List.mem_append_right _ (List.mem_cons_self ..))).1, ?_⟩
  have J' : Inv X pins σ H1 s1 := J.pins_of fun p hp => J.pin p (List.mem_append_right _ (List.mem_cons_of_mem _ hp))
  refine bw_ok S.ox J' ea1 ((J.pin (h'.objs.size, PySem.W.kxs_mw "ValueError.__init__" a) (List.mem_append_right _ (List.mem_cons_self ..))).1) ?_ fun s' J2 => q1 s' J2
  rw [← Paired.length rv, sizeLine_eq]
  omega
end
section
variable {CX : CXT} {P : Program} {w : World} {K : PySem.W.Frag} {mg : Str → Option Value} {base : Heap} {N ps : List Str} {F : NF} {f C c0 : Addr} {k : Nat} {sp : Sp}
/-- the def by its body: super().__init__(e) first, then the rest -/
theorem ok_sup {oc doc pm ctv : Value} {od : Option Addr} {osl : Array (Option Value)} {e : Expr} {es : List Expr} {p0 p1 p2 p3 p4 : Pos} {rest : List Stmt} {sx : Str}
    (T : SupC P K mg F C c0) (look : K.lookup f = some ⟨oc, od, .func (F.fd doc pm ctv), osl⟩) (code : PySem.W.codeIn K (.ref F.c) F.qual = true)
    (hb : F.body = .Expr (.Call (.Attribute (.Call (.Name "super" p0) [] [] p1) "__init__" p2) (e :: es) [] p3) p4 :: rest)
    (hp : (F.params.posonlyargs ++ F.params.args).head?.map (·.arg) = some sx) (hN : N[0]? = some sx) (hv : F.scope.names.lookup sx = some .local) (hks : F.scope.names.lookup ("super" : Str) = some .globalImplicit) (hkc : F.scope.names.lookup ("__class__" : Str) = some .free) (hcd : (sx == ("__classdict__" : Str)) = false)
    (he : ∀ L, starEach (e :: es) (envF F f L) = (false, eval e (envF F f L)) :: starEach es (envF F f L)) (hpl : ∀ L, (backTo p3 (starEach es (envF F f L))).any (·.1) = false)
    (hev : ∀ L, eval (.Call (.Attribute (.Call (.Name "super" p0) [] [] p1) "__init__" p2) (e :: es) [] p3) (envF F f L) = (do
      let ov ← attributeBase (.Call (.Name "super" p0) [] [] p1) "__init__" (envF F f L) (eval (.Call (.Name "super" p0) [] [] p1) (envF F f L))
      standAt p2.atName
      let (g, first) ← holding [ov] (getMethod ov "__init__" (pure false))
      callWith p3 g first (backTo p3 (starEach (e :: es) (envF F f L))) []))
    (hi : ∀ L, interactive (envF F f L) = false) (hsw : ∀ L, swapsWith (.Call (.Attribute (.Call (.Name "super" p0) [] [] p1) "__init__" p2) (e :: es) [] p3) none p4.line (envF F f L) = pure false)
    (S : NScope N ps ["__class__"] F.scope) (hlen : ∀ vs H Q E, sp vs H Q E → vs.length = ps.length)
    (hbody : ∀ (A : Around) (outer : List Env) (s : Shared) (H : Hp) (vs : List V) (Q : VK) (E : XK), Room k (A.deeper (envF F f s.heap.objs.size)) → sp vs H Q E →
      ∃ ta t, PA (ncx CX P w K mg base N F f A outer s H E) (e :: es) ta ∧ PSs (ncx CX P w K mg base N F f A outer s H E) rest t ∧ ∃ a us, vs = .ref a :: us ∧ H a = some (exo a C none) ∧
        ta (startF N vs [some (.ref C)]) H fun ws H1 => ws.length ≤ 1000 ∧ H1 a = some (exo a C none) ∧ t { nx := fun _ H' => Q .non H', rt := Q } (startF N vs [some (.ref C)]) H1) :
    FnOk P w K mg base CX (k + 1) f (F.fd doc pm ctv) ps sp := by
  refine ⟨hlen, fun A outer s H args us vs Q E room e0 bnd rel q => ?_⟩
  have below := fun b o (e : base.get? b = some o) => (e0.bs b o e).1
  have kin := e0.mod.kin.keeps below
  obtain ⟨cl, cld, csl, hcell⟩ := T.cell
  refine codeAny_call_function room.depth (kin _ _ look) rfl S.co S.gen rfl (PySem.W.codeRec_of kin code) (bnd _ _ _ _ ?_)
  refine wpAny_newFunctionEnv S.nocell (fun ⟨n, _⟩ hy => S.par n (List.of_mem_zip hy).1) (fun h₁ made grown => ⟨(e0.mod.nolimit.keeps below).fresh _ grown, ?_⟩) S.kind
  show codeAny _ _ (.func F.body (envF F f s.heap.objs.size)) _ _
  refine PySem.ks_codeAny_funcAt ?_
  have keep : ∀ b o, s.heap.get? b = some o → h₁.get? b = some o := fun b o e => grown.extBut b o (Nat.ne_of_lt (Heap.lt_size e)) (Heap.get?_push_of_some _ e)
  obtain ⟨ta, t, hpa, hps, a, us', hvs, ea, ht⟩ := hbody A outer s H vs Q E (room.deeper _) q
  have inv := inv_startN (CX := CX) (mg := mg) (f := f) (E := E) (tk := s.toks + (ps.zip us).length) S room.hd e0 (hlen _ _ _ _ q) rel (cell_at (F := F) e0 T.hcl ⟨_, hcell⟩ (fun h ki => ⟨_, ki _ _ hcell, rfl⟩)) made keep
  rw [hb]
  refine PySem.ks_wpAt_execs_cons ?_
  refine at_super (X := ncx CX P w K mg base N F f A outer s H E) (a := a) T inv ⟨_, rfl⟩ look hp hN hv hks hkc (by rw [hvs] <;> rfl) ea hcd hpa (he _) (hpl _) (hev _) (hi _) (hsw _) ht fun vs1 H1 ⟨hl, ea1, ht1⟩ => ⟨hl, ea1, fun s' J => ?_⟩
  refine wpAt_of_wpAny (wpAny_mono (hps.run [] _ _ H1 _ J ht1) (fun fl s' out => ?_) fun _ _ out => out)
  cases fl with
  | next =>
    obtain ⟨σ', H', J, q'⟩ := out
    exact ⟨V.non, H', J.os, J.bare, J.base, J.hok, rfl, q'⟩
  | ret u =>
    obtain ⟨v, σ', H', J, rv, q'⟩ := out
    exact ⟨v, H', J.os, J.bare, J.base, J.hok, rv, q'⟩
  | brk =>
    obtain ⟨_, _, _, no⟩ := out
    exact False.elim no
  | cont =>
    obtain ⟨_, _, _, no⟩ := out
    exact False.elim no
end
end Vf

set_option maxRecDepth 100000
set_option maxHeartbeats 4000000
namespace Vf
open PySem PySem.Spec PyProof.Rows L2 NdefX ClX
/-- the promise of such an error's __init__ -/
def sp_err (C : Addr) (fld : Str) : Sp := fun vs H Q _ => ∃ (a : Addr) (v : V), vs = [.ref a, v] ∧ H a = some (exo a C none) ∧ ∀ dx, H dx = none → dx ≠ a → Q .non (upd (upd H dx (exd dx [(fld, v)])) a (exo a C (some dx)))
/-- what the text says of an own error with the field fld, __init__ at fI -/
structure ErrC (K : PySem.W.Frag) (mg : Str → Option Value) (x : Str) (C fI : Addr) (fld : Str) : Prop where
  ox : OexC K C
  xf : XfC K C
  iC : PySem.W.findIn K (.ref C) "__init__" = some (some (.ref fI))
  tI : PySem.W.typeIn K (.ref fI) = some (.type "function")
  gC : mg x = some (.ref C)
  kC : PySem.W.keepIn K (.ref C) = true
  no : PySem.W.findIn K (.ref C) fld = some none
  te : PySem.W.exmOne K (.ref C) (.ref C) = some true
/-- the def as it can be called -/
structure ErrF (P : Program) (w : World) (K : PySem.W.Frag) (mg : Str → Option Value) (base : Heap) (x : Str) (C : Addr) (fld : Str) : Prop where
  ex : ∃ (fI : Addr) (fd : FuncData) (ps : List Str), ErrC K mg x C fI fld ∧ Binds K fd ps [] ∧ FnOk P w K mg base CX0 1 fI fd ps (sp_err C fld)
theorem upd_self_none {H : Hp} {a d : Addr} {fs : List (Str × V)} {o1 o2 : HO} {u : HO} (ha : H a = none) (hda : d ≠ a) : upd (del (upd (upd (upd H a o1) d u) a o2) a) d (.xd fs) = upd H d (.xd fs) := by
  funext b
  by_cases hb : b = d
  · rw [hb, upd_same, upd_same]
  · rw [upd_ne hb, upd_ne hb]
    by_cases hba : b = a
    · rw [hba, del_same, ha]
    · rw [del_ne hba, upd_ne hba, upd_ne hb, upd_ne hba]
theorem mkO_err {C : Addr} {fld : Str} {v : V} {H : Hp} {Q : XK} (h : ∀ d, H d = none → Q (.ref C) (some d) (upd H d (.xd [(fld, v)]))) :
    [v].length ≤ 1000 ∧ ∀ a, H a = none → sp_err C fld (.ref a :: ([v] ++ [])) (upd H a (exo a C none))
      (fun v H2 => v = .non ∧ ∃ (d : Addr) (fs : List (Str × V)), H2 a = some (exo a C (some d)) ∧ H2 d = some (exd d fs) ∧ H d = none ∧ Q (.ref C) (some d) (upd (del H2 a) d (.xd fs))) (fun _ _ _ => False) := by
  refine ⟨by show 1 ≤ 1000; decide, fun a ha => ⟨a, v, rfl, upd_same, fun dx hdx hne => ⟨rfl, dx, [(fld, v)], upd_same, ?_, ?_, ?_⟩⟩⟩
  · rw [upd_ne hne, upd_same]
  · rw [upd_ne hne] at hdx
    exact hdx
  · have hd : H dx = none := by
      rw [upd_ne hne] at hdx
      exact hdx
    rw [upd_self_none ha hne]
    exact h dx hd
section
variable {X : Cx} {W : WX} {C : Addr} {fld x : Str} {e : Expr} {te : TE} {p pos pos2 : Pos}
/-- raise X(e) -/
theorem ps_raiseE (hc : X.calm = true) (T : ErrF X.prog X.w X.K X.mg X.base x C fld) (hr : Room 2 X.A) (tk : Takes X W) (he : PE X e te) (hg : Gl X x)
    (hdb : (x == ("__debug__" : Str)) = false := by decide) (hst : starEach (e :: []) X.env = (false, eval e X.env) :: starEach [] X.env := by rfl) (hpl : (backTo pos (starEach [] X.env)).any (·.1) = false := by rfl) :
    PS X (.Raise (some (.Call (.Name x p) [e] [] pos)) none pos2) (fun _ σ H => tMkO C (sp_err C fld) [] (tCons te tNil) σ H fun cls d H' => W cls d σ H') := by
  obtain ⟨fI, fd, ps, T, hb, F⟩ := T.ex
  exact ps_raise hc tk (pmk_oex T.ox T.iC T.tI F hr hb .nil pass0 hg T.gC (pa_cons he pa_nil hst) hdb hst hpl)
end
section
variable {P : Program} {w : World} {K : PySem.W.Frag} {mg : Str → Option Value} {base : Heap} {N ps : List Str} {F : NF} {f C c0 : Addr}
/-- the __init__ of such an error: super().__init__(text); self.fld = y -/
theorem ok_err {oc doc pm ctv : Value} {od : Option Addr} {osl : Array (Option Value)} {m : Str} {fld sx sy : Str} {j : Nat} {p0 p1 p2 p3 p4 p5 p6 p7 p8 p9 : Pos}
    (T : SupC P K mg F C c0) (look : K.lookup f = some ⟨oc, od, .func (F.fd doc pm ctv), osl⟩) (code : PySem.W.codeIn K (.ref F.c) F.qual = true)
    (hb : F.body = [.Expr (.Call (.Attribute (.Call (.Name "super" p0) [] [] p1) "__init__" p2) [.Constant (.str m) j p3] [] p4) p5, .Assign [.Attribute (.Name sx p6) fld p7] (.Name sy p8) p9])
    (hp : (F.params.posonlyargs ++ F.params.args).head?.map (·.arg) = some sx) (hN : N = [sx, sy, "__class__"]) (hps : ps = [sx, sy]) (hv : F.scope.names.lookup sx = some .local) (hvy : F.scope.names.lookup sy = some .local)
    (hks : F.scope.names.lookup ("super" : Str) = some .globalImplicit) (hkc : F.scope.names.lookup ("__class__" : Str) = some .free) (hcd : (sx == ("__classdict__" : Str)) = false) (hcdy : (sy == ("__classdict__" : Str)) = false)
    (hdx : (sx == ("__debug__" : Str)) = false) (hdy : (sy == ("__debug__" : Str)) = false)
    (hev : ∀ L, eval (.Call (.Attribute (.Call (.Name "super" p0) [] [] p1) "__init__" p2) [.Constant (.str m) j p3] [] p4) (envF F f L) = (do
      let ov ← attributeBase (.Call (.Name "super" p0) [] [] p1) "__init__" (envF F f L) (eval (.Call (.Name "super" p0) [] [] p1) (envF F f L))
      standAt p2.atName
      let (g, first) ← holding [ov] (getMethod ov "__init__" (pure false))
      callWith p4 g first (backTo p4 (starEach [.Constant (.str m) j p3] (envF F f L))) []))
    (hi : ∀ L, interactive (envF F f L) = false) (hsw : ∀ L, swapsWith (.Call (.Attribute (.Call (.Name "super" p0) [] [] p1) "__init__" p2) [.Constant (.str m) j p3] [] p4) none p5.line (envF F f L) = pure false)
    (hsw2 : ∀ L, swapsWith (.Name sy p8) (some (.Attribute (.Name sx p6) fld p7)) p9.line (envF F f L) = pure false)
    (S : NScope N ps ["__class__"] F.scope) (no : PySem.W.findIn K (.ref C) fld = some none) :
    FnOk P w K mg base CX0 1 f (F.fd doc pm ctv) ps (sp_err C fld) := by
  subst hN hps
  refine ok_sup (k := 0) (sx := sx) T look code hb hp rfl hv hks hkc hcd (fun _ => by rfl) (fun _ => by rfl) hev hi hsw S (fun vs H Q E h => ?_) (fun A outer s H vs Q E hr h => ?_)
  · obtain ⟨a, v, rfl, _⟩ := h
    rfl
  · obtain ⟨a, v, rfl, ea, k⟩ := h
    refine ⟨_, _, pa_cons pe_str pa_nil, pss_one (ps_ost (pe_var (i := 0) rfl (.inl hv) hdx hcd) (pe_var (i := 1) rfl (.inl hvy) hdy hcdy) (hsw2 _)), a, [v], rfl, ea, ?_⟩
    refine ⟨by show 1 ≤ 1000; decide, ea, _, rfl, _, rfl, a, C, rfl, T.ox, no, .inl ⟨ea, fun dx hdx hne => k dx hdx hne⟩⟩
end
/-- C.m(e, ..), m static, that may raise -/
def tSMs (C : Addr) (sp : Sp) (E : L2.St → XK) (ta : TE) (t : TA) : TE := fun σ H Q => ta σ H fun x H1 => x = .ref C ∧ t σ H1 fun vs H2 => sp vs H2 Q (E σ)
section
variable {X : Cx} {CX : CXT} {k : Nat} {C p g : Addr} {fd : FuncData} {ps : List Str} {sp : Sp} {E : L2.St → XK} {o e : Expr} {es : List Expr} {m : Str} {pos apos : Pos} {ta : TE} {t : TA} {pl : Sem Bool} {mc : Value}
theorem pe_smethS (he : PE X o ta) (r : CRead X.K C mc) (c : SMet X.K C mc m p g)
    (F : FnOk X.prog X.w X.K X.mg X.base CX k g fd ps sp) (hr : Room k X.A) (hb : Binds X.K fd ps []) (hx : ∀ σ, PassesAt CX X σ (E σ))
    (ha : PA X (e :: es) t) (hst : starEach (e :: es) X.env = (false, eval e X.env) :: starEach es X.env := by rfl)
    (hpl : (backTo pos (starEach es X.env)).any (·.1) = false := by rfl)
    (ht : eval (.Call (.Attribute o m apos) (e :: es) [] pos) X.env = (do
      let ov ← eval o X.env
      standAt apos.atName
      let (f, first) ← holding [ov] (getMethod ov m pl)
      callWith pos f first (backTo pos (starEach (e :: es) X.env)) (backToKw pos (keywordEach [] X.env))) := by rfl) :
    PE X (.Call (.Attribute o m apos) (e :: es) [] pos) (tSMs C sp E ta t) := by
  refine ⟨fun pins s σ H Q I h => PySem.W.methodCall_KW (pl := pl) (thn (he.run pins s σ H _ I h) ?_) ht⟩
  rintro u s1 ⟨x, H1, I1, rx, rfl, q⟩
  obtain rfl : u = Value.ref C := rx
  obtain ⟨rest, hp⟩ := c.rc
  refine PySem.W.method_cls I1.kIn r.ga (PySem.W.cls_bind I1.kIn r.rd c.fd (wpAny_call
    (PySem.W.sm_get (s := { s1 with toks := s1.toks + 1 }) I1.kIn hp (PySem.W.handed_on rfl ?_))))
  have I2 : Inv X pins σ H1 { s1 with toks := s1.toks + 1 } := I1.tok _
  refine PySem.W.callWith_K (h₀ := X.base) I.ok.mod.kin c.kp (thn (ha.run pos pins _ σ H1 _ I2 q) ?_) hst hpl
  rintro us s2 ⟨vs, H2, I3, rv, q2⟩
  exact ⟨I3.kIn, run_fnS F hr hb (hx σ) I3 rv q2⟩
/-- what a def that may raise lets out of its callees -/
theorem passX {W : WX} {E : XK} (tk : Takes X W) (h : ∀ cls d σ H, E cls d H → W cls d σ H) : Passes (L2.CX X.prog X.w) X E := fun _ σ _ _ e s' I c => tk e s' (XE.of_call I (fun cls d H' h' => h cls d σ H' h') c)
end
end Vf

set_option maxRecDepth 100000
set_option maxHeartbeats 4000000
namespace Vf
open PySem PySem.Spec PyProof.Rows L2
abbrev Clause := Value × Option Nat × (Addr → Value → Option Addr → TS)
/-- the ends of a suite whose name is forgotten behind it -/
abbrev endsN (i : Nat) (D : Ends) : Ends := { nx := fun σ' H' => D.nx (σ'.set i none) H', rt := D.rt, bk := fun σ' H' => D.bk (σ'.set i none) H', ct := fun σ' H' => D.ct (σ'.set i none) H' }
def wManyN (K : PySem.W.Frag) (Wout : WX) (D : Ends) : List Clause → WX
  | [] => Wout
  | (c, none, ts) :: r => fun cls d σ H => ∃ b, PySem.W.exmOne K cls c = some b ∧ (b = true → ∀ a, H a = none → ts a cls d D σ H) ∧ (b = false → wManyN K Wout D r cls d σ H)
  | (c, some i, ts) :: r => fun cls d σ H => ∃ b, PySem.W.exmOne K cls c = some b ∧ (b = true → ∀ a, H a = none → ts a cls d (endsN i D) (σ.set i (some (.ref a))) H) ∧ (b = false → wManyN K Wout D r cls d σ H)
inductive HdsN (X : Cx) : List ExceptHandler → List Clause → Prop
  | nil : HdsN X [] []
  | plain {x : Str} {c : Value} {ts : Addr → Value → Option Addr → TS} {b₀ : Stmt} {suite : List Stmt} {np pos' : Pos} {hds : List ExceptHandler} {l : List Clause} (hc : Names X x c)
      (hsu : ∀ (a : Addr) (oe : Obj) (cls : Value) (d : Option Addr) (pn : List (Addr × Obj)), Zc cls d oe → (∃ vs, oe.data = .fields vs) → PSs (X.suite a ((a, oe) :: pn)) (b₀ :: suite) (ts a cls d)) (r : HdsN X hds l) :
      HdsN X (.ExceptHandler (some (.Name x np)) none (b₀ :: suite) pos' :: hds) ((c, none, ts) :: l)
  | named {x n : Str} {i : Nat} {c : Value} {ts : Addr → Value → Option Addr → TS} {b₀ : Stmt} {suite : List Stmt} {np pos' : Pos} {hds : List ExceptHandler} {l : List Clause} (hN : X.N.Nodup) (hi : X.N[i]? = some n) (hln : X.env.kindOf n = some .local) (hc : Names X x c)
      (hsu : ∀ (a : Addr) (oe : Obj) (cls : Value) (d : Option Addr) (pn : List (Addr × Obj)), Zc cls d oe → (∃ vs, oe.data = .fields vs) → PSs (X.suite a ((a, oe) :: pn)) (b₀ :: suite) (ts a cls d)) (r : HdsN X hds l) :
      HdsN X (.ExceptHandler (some (.Name x np)) (some n) (b₀ :: suite) pos' :: hds) ((c, some i, ts) :: l)
section
variable {X : Cx} {body : List Stmt} {h₀ : ExceptHandler} {hds : List ExceptHandler} {l : List Clause} {pos : Pos} {tb : WX → TS} {Wout : WX}
theorem ps_try_manyN (hs : X.stack = X.env :: X.outer) (hf : X.env.frame = some X.env.locals) (tk : Takes X Wout)
    (hb : ∀ (W : WX) (pn : List (Addr × Obj)) (xe : Value → Shared → Prop), Takes (X.tr pn xe) W → PassesOwn (model X.prog X.w) X.A X.env xe → PSs (X.tr pn xe) body (tb W))
    (hh : HdsN X (h₀ :: hds) l) : PS X (.Try body (h₀ :: hds) [] [] pos) (fun D σ H => tb (wManyN X.K Wout D l) D σ H) := by
  refine ⟨fun pins s σ H D I h => ?_⟩
  have ok := I.ok
  have hfr : X.A.frames = some (X.env :: X.outer) := by rw [ok.frames, hs]
  refine wpAny_Try_except ?_
  refine wpAny_mono ((hb (wManyN X.K Wout D l) (X.pn ++ pins) (fun e s₁ => wpAny (model X.prog X.w) X.A (noteFrame e X.env) (fun _ s₂ => wpAny (model X.prog X.w) X.A (setFlight e none) (fun _ s₃ =>
    wpAny (model X.prog X.w) X.A (handleBy e X.env (h₀ :: hds)) (SP X pins D) X.xe s₃) X.xe s₂) X.xe s₁) (fun u s' xx => ?_) PassesOwn.looking).run [] s σ H D (I.toTry _) h) (fun f s1 hsp => ?_) (fun e s1 he => he)
  · -- the catch
    obtain ⟨a, B, sI, pins', σ', H', cls, d, rfl, J', nb, up, sky, na, os, ag, w⟩ := xx
    have J : Inv X pins σ' H' sI := J'.ofTry ok
    have sky' : Sky B (X.env :: X.outer) a (Zc cls d) X.env.locals s'.heap := by rw [← hs]; exact sky
    show wpAny (model X.prog X.w) X.A (noteFrame (.ref a) X.env) _ _ _
    refine Sky.land Zc.steady hfr hf sky' fun h3 fl3 up3 => ?_
    have J3 : Inv X pins σ' H' { s' with heap := h3 } := J.landed nb fl3.1 (up.trans up3) os ag
    obtain ⟨oe3, vs3, he3, hz3, hd3⟩ := fl3.there
    have notFr : ∀ {h : Heap} {o : Obj} {vs : Array Value}, h.FunFrames B (X.env :: X.outer) → h.get? a = some o → o.data = .fields vs → a ∉ frs (X.env :: X.outer) := fun {h o vs} ff e dd hm => by
      obtain ⟨_, o', e', hnf⟩ := ff.mem hm
      rw [e] at e'; cases e'
      exact hnf _ dd
    have nfr := notFr fl3.2.2.1 he3 hd3
    have nL : a ≠ X.env.locals := fun z => nfr (List.mem_filterMap.mpr ⟨X.env, List.mem_cons_self, by rw [hf, z]⟩)
    have nF : a ∉ X.fs := fun hm => by
      obtain ⟨e, he, q⟩ := List.mem_filterMap.mp hm
      exact nfr (List.mem_filterMap.mpr ⟨e, List.mem_cons_of_mem _ he, q⟩)
    have S3 := J3.suite he3 hd3 na nL nF
    have go : ∀ {hds' : List ExceptHandler} {l' : List Clause}, HdsN X hds' l' → wManyN X.K Wout D l' cls d σ' H' →
        wpAny (model X.prog X.w) X.A (handleBy (.ref a) X.env hds') (SP X pins D) X.xe { s' with heap := h3 } := by
      intro hds' l' hk
      induction hk with
      | nil =>
        intro w
        refine wpAny_handleBy_nil ?_
        obtain ⟨k1, k2, k3, oe, vs, T, oT, ts', he, hz, hd, h1, hr⟩ := id fl3
        unfold PySem.passOn
        refine wpAny_bind (wpAny_field he hd h1 ?_)
        rw [if_neg (show ¬ ((Value.ref T == Value.none) = true) from by simp)]
        have fin : wpAny (model X.prog X.w) X.A (setFlight (.ref a) X.env.frame) (fun _ s4 => wpAny (model X.prog X.w) X.A (throw (.ref a) : Sem Flow) (SP X pins D) X.xe s4) X.xe { s' with heap := h3 } := by
          rw [hf]
          refine HandSPX.setFlight_upZ fl3 fun h4 hh4 up4 => wpAny_throw (tk _ _ ?_)
          exact ⟨a, B, sI, pins, σ', H', cls, d, rfl, J, nb, (up.trans up3).trans up4, .inr (.inr (by rw [hs]; exact hh4)), na, os, ag, w⟩
        first
          | exact wpAny_bind (wpAny_pure (wpAny_bind fin))
          | exact wpAny_bind fin
      | @plain x c ts b₀ suite np pos' hds2 l2 hc hsu r ih =>
        intro w
        obtain ⟨b, hb1, hyes, hno⟩ := w
        refine wpAny_handleBy_cons (codeAny_handlers_test ?_) (by intro q; cases q)
        have LT : PySem.W.Looks (model X.prog X.w) h3 (typeOf (.ref a)) cls := fun A Q E s k q => wpAny_typeOf_ref (k _ _ he3) (by rw [hz3.1]; exact q)
        have LM := PySem.W.exm_one (M := model X.prog X.w) (J3.kIn) LT hb1
        have test : ∀ {Q : Value → Shared → Prop} {E : Value → Shared → Prop}, Q c { s' with heap := h3 } → wpAny (model X.prog X.w) (X.A.mark (some (.ref a))) (eval (.Name x np) X.env) Q E { s' with heap := h3 } := fun {Q E} q => by
          obtain ⟨hg, hdbg, hm | ⟨hm, hv, hnn⟩⟩ := hc
          · exact ld_glob (X := X.suite a ((a, oe3) :: (X.pn ++ pins))) S3 hg hm q hdbg
          · exact ld_blt (X := X.suite a ((a, oe3) :: (X.pn ++ pins))) S3 hg hm hv q hnn hdbg
        refine test (LM.here ?_)
        cases b with
        | true =>
          refine codeAny_handlers_suite ?_
          refine HandSPX.lands_againZ fl3 fun h4 fl4 up4 => ?_
          have J4 : Inv X pins σ' H' { s' with heap := h4 } := J.landed nb fl4.1 ((up.trans up3).trans up4) os ag
          obtain ⟨oe4, vs4, he4, hz4, hd4⟩ := fl4.there
          have S4 := J4.suite he4 hd4 na nL nF
          refine wpAny_mono ((hsu a oe4 cls d (X.pn ++ pins) hz4 ⟨_, hd4⟩).run [] _ _ H' _ S4 (hyes rfl a na)) (fun f s6 hsp => ?_) (fun _ _ z => False.elim z)
          cases f with
          | next =>
            obtain ⟨σ6, H6, S6, q6⟩ := hsp
            exact ⟨_, _, S6.unsuite ok, q6⟩
          | brk =>
            obtain ⟨σ6, H6, S6, q6⟩ := hsp
            exact ⟨_, _, S6.unsuite ok, q6⟩
          | cont =>
            obtain ⟨σ6, H6, S6, q6⟩ := hsp
            exact ⟨_, _, S6.unsuite ok, q6⟩
          | ret u =>
            obtain ⟨v6, σ6, H6, S6, r6, q6⟩ := hsp
            exact ⟨_, _, _, S6.unsuite ok, r6, q6⟩
        | false =>
          show wpAny _ X.A (handleBy (.ref a) X.env hds2) _ _ _
          exact ih (hno rfl)
      | @named x n i c ts b₀ suite np pos' hds2 l2 hN hi hln hc hsu r ih =>
        intro w
        obtain ⟨b, hb1, hyes, hno⟩ := w
        have hloc : Loc X.env.scope n := .inl hln
        refine wpAny_handleBy_cons (codeAny_handlers_test ?_) (by intro q; cases q)
        have LT : PySem.W.Looks (model X.prog X.w) h3 (typeOf (.ref a)) cls := fun A Q E s k q => wpAny_typeOf_ref (k _ _ he3) (by rw [hz3.1]; exact q)
        have LM := PySem.W.exm_one (M := model X.prog X.w) (J3.kIn) LT hb1
        have test : ∀ {Q : Value → Shared → Prop} {E : Value → Shared → Prop}, Q c { s' with heap := h3 } → wpAny (model X.prog X.w) (X.A.mark (some (.ref a))) (eval (.Name x np) X.env) Q E { s' with heap := h3 } := fun {Q E} q => by
          obtain ⟨hg, hdbg, hm | ⟨hm, hv, hnn⟩⟩ := hc
          · exact ld_glob (X := X.suite a ((a, oe3) :: (X.pn ++ pins))) S3 hg hm q hdbg
          · exact ld_blt (X := X.suite a ((a, oe3) :: (X.pn ++ pins))) S3 hg hm hv q hnn hdbg
        refine test (LM.here ?_)
        cases b with
        | true =>
          refine codeAny_handlers_suite_as ?_
          refine HandSPX.lands_againZ fl3 fun h4 fl4 up4 => ?_
          have J4 : Inv X pins σ' H' { s' with heap := h4 } := J.landed nb fl4.1 ((up.trans up3).trans up4) os ag
          obtain ⟨oe4, vs4, he4, hz4, hd4⟩ := fl4.there
          have S4 := J4.suite he4 hd4 na nL nF
          refine store_ok (X := X.suite a ((a, oe4) :: (X.pn ++ pins))) (v := .ref a) S4 hN hi hloc rfl (fun s5 S5 => ?_) (.inr hln)
          refine wpAny_mono ((hsu a oe4 cls d (X.pn ++ pins) hz4 ⟨_, hd4⟩).run [] s5 _ H' _ S5 (hyes rfl a na)) (fun f s6 hsp => ?_) (fun _ _ z => False.elim z)
          have end_ : ∀ {σ6 : L2.St} {H6 : Hp} {Q : Shared → Prop}, Inv (X.suite a ((a, oe4) :: (X.pn ++ pins))) [] σ6 H6 s6 → (∀ s7, Inv X pins (σ6.set i none) H6 s7 → Q s7) →
              wpAny (model X.prog X.w) X.A (do bindName X.env n .none; unbindBehindTheSuite X.env n pos') (fun _ s7 => Q s7) X.xe s6 := fun {σ6 H6 Q} S6 hq => gone_ok (S6.unsuite ok) hN hi hln hq
          cases f with
          | next =>
            obtain ⟨σ6, H6, S6, q6⟩ := hsp
            exact end_ S6 fun s7 J7 => ⟨_, _, J7, q6⟩
          | brk =>
            obtain ⟨σ6, H6, S6, q6⟩ := hsp
            exact end_ S6 fun s7 J7 => ⟨_, _, J7, q6⟩
          | cont =>
            obtain ⟨σ6, H6, S6, q6⟩ := hsp
            exact end_ S6 fun s7 J7 => ⟨_, _, J7, q6⟩
          | ret u =>
            obtain ⟨v6, σ6, H6, S6, r6, q6⟩ := hsp
            exact end_ S6 fun s7 J7 => ⟨_, _, _, J7, r6, q6⟩
        | false =>
          show wpAny _ X.A (handleBy (.ref a) X.env hds2) _ _ _
          exact ih (hno rfl)
    exact go hh w
  · cases f with
    | next =>
      obtain ⟨σ', H', J', q⟩ := hsp
      exact wpAny_execs_nil ⟨σ', H', J'.ofTry ok, q⟩
    | brk =>
      obtain ⟨σ', H', J', q⟩ := hsp
      exact ⟨σ', H', J'.ofTry ok, q⟩
    | cont =>
      obtain ⟨σ', H', J', q⟩ := hsp
      exact ⟨σ', H', J'.ofTry ok, q⟩
    | ret u =>
      obtain ⟨v, σ', H', J', r, q⟩ := hsp
      exact ⟨v, σ', H', J'.ofTry ok, r, q⟩
end
section
variable {X : Cx} {W : WX} {C : Addr} {x : Str} {p pos pos2 : Pos}
/-- what the text says of an own error without __init__ -/
structure ErrP (K : PySem.W.Frag) (mg : Str → Option Value) (x : Str) (C : Addr) : Prop where
  ex : PySem.W.excIn K C [.type "ValueError", .type "Exception", .type "BaseException", .type "object"] "ValueError.__new__" = true
  gC : mg x = some (.ref C)
  kC : PySem.W.keepIn K (.ref C) = true
  sB : PySem.W.subIn K (.ref C) (.type "BaseException") = some true
  tC : PySem.W.typeIn K (.ref C) = some (.type "type")
  te : PySem.W.exmOne K (.ref C) (.ref C) = some true
theorem exm_is {K : PySem.W.Frag} {S : Value} {C : Addr} {b : Bool} (h1 : PySem.W.subIn K (.ref C) (.type "BaseException") = some true) (h2 : PySem.W.isClsIn K C = true) (h3 : PySem.W.typeIn K (.ref C) = some (.type "type")) (h4 : PySem.W.subIn K S (.ref C) = some b) :
    PySem.W.exmOne K S (.ref C) = some b := by
  have e1 : (PySem.W.subIn K (.ref C) (.type "BaseException") == some true) = true := by rw [h1] <;> rfl
  have e2 : ((PySem.W.clsIn K C).isSome && PySem.W.typeIn K (.ref C) == some (.type "type")) = true := by
    have h2' : (PySem.W.clsIn K C).isSome = true := h2
    rw [h2', h3] <;> rfl
  show (if (PySem.W.subIn K (.ref C) (.type "BaseException") == some true) = true then (if ((PySem.W.clsIn K C).isSome && PySem.W.typeIn K (.ref C) == some (.type "type")) = true then PySem.W.subIn K S (.ref C) else none) else none) = some b
  rw [if_pos e1, if_pos e2]
  exact h4
/-- X() -/
theorem pmk_own0 (T : ErrP X.K X.mg x C) (hg : Gl X x) (hdb : (x == ("__debug__" : Str)) = false := by decide) : PMk X (.Call (.Name x p) [] [] pos) (fun _ H Q => Q (.ref C) none H) := by
  intro pins s σ H Q I h
  refine wpAny_Call_Name_kw (ld_glob I hg T.gC ?_ hdb)
  refine PySem.W.callWith_K0 I.kIn T.kC ?_
  show wpAny _ _ (call (.ref C) []) _ _ _
  obtain ⟨bm, N, nm, qn, bs, hdct, sn, sub, ab, col, dd, k0, k1, k2, k3, k5, mN, hC, hN, hni, T2⟩ := exc_obj I.kIn T.ex
  refine wpAny_call_exc_subT PySem.F.excBase_ValueError T2 hC hN hni (fun h' e hm => ?_) (by show 0 ≤ sizeLine; rw [sizeLine_eq]; omega)
  exact mk_of I hm (raises_own T.sB T.tC) h (I.hok.gone hm.new)
theorem ps_raise0 (hc : X.calm = true) (T : ErrP X.K X.mg x C) (tk : Takes X W) (hg : Gl X x) (hdb : (x == ("__debug__" : Str)) = false := by decide) :
    PS X (.Raise (some (.Call (.Name x p) [] [] pos)) none pos2) (fun _ σ H => W (.ref C) none σ H) :=
  ps_raise hc tk (pmk_own0 T hg hdb)
end
end Vf

set_option maxRecDepth 100000
set_option maxHeartbeats 4000000
namespace Vf
open PySem PySem.Spec PyProof.Rows L2
section
variable {X : Cx} {CX : CXT} {k : Nat} {C f : Addr} {fd : FuncData} {ps : List Str} {sp : Sp} {E : L2.St → XK} {x m : Str} {p pos apos : Pos} {e o : Expr} {es : List Expr} {ta : TE} {t : TA}
def tMethE (C : Addr) (m : Str) (sp : Sp) (E : L2.St → XK) (ta : TE) (t : TA) : TE := fun σ H Q => ta σ H fun x H1 => ∃ a dx fs, x = .ref a ∧ H1 a = some (.ins C dx fs) ∧ fs.lookup m = none ∧ t σ H1 fun vs H2 => sp (.ref a :: vs) H2 Q (E σ)
theorem pe_methE {pl : Sem Bool} (he : PE X o ta) (c : Cls X.K C) (hm : Meth X.K C m f) (F : FnOk X.prog X.w X.K X.mg X.base CX k f fd ps sp) (hr : Room k X.A) (hb : Binds X.K fd ps []) (hx : ∀ σ, PassesAt CX X σ (E σ)) (ha : PA X (e :: es) t)
    (hst : starEach (e :: es) X.env = (false, eval e X.env) :: starEach es X.env := by rfl) (hpl : (backTo pos (starEach es X.env)).any (·.1) = false := by rfl)
    (ht : eval (.Call (.Attribute o m apos) (e :: es) [] pos) X.env = (do
      let ov ← eval o X.env
      standAt apos.atName
      let (f, first) ← holding [ov] (getMethod ov m pl)
      callWith pos f first (backTo pos (starEach (e :: es) X.env)) (backToKw pos (keywordEach [] X.env))) := by rfl) :
    PE X (.Call (.Attribute o m apos) (e :: es) [] pos) (tMethE C m sp E ta t) := by
  refine ⟨fun pins s σ H Q I h => ?_⟩
  refine PySem.W.methodCall_KW (pl := pl) (thn (he.run pins s σ H _ I h) fun u s1 ⟨x, H1, I1, rx, a, dx, fs, ex, ea, l, q⟩ => ?_) ht
  subst ex
  obtain rfl : u = Value.ref a := rx
  refine getmeth_ok I1 ea c hm l ?_
  refine PySem.W.callWith_K (first := [.ref a]) (h₀ := X.base) I.ok.mod.kin hm.kp (thn (ha.run pos pins s1 σ H1 _ I1 q) fun us s2 ⟨vs, H2, I2, r, q2⟩ => ⟨I2.kIn, ?_⟩) hst hpl
  exact run_fnS (us := .ref a :: us) (vs := .ref a :: vs) F hr hb (hx σ) I2 (.cons rfl r) q2
theorem pe_methE0 {pl : Sem Bool} (he : PE X o ta) (c : Cls X.K C) (hm : Meth X.K C m f) (F : FnOk X.prog X.w X.K X.mg X.base CX k f fd ps sp) (hr : Room k X.A) (hb : Binds X.K fd ps []) (hx : ∀ σ, PassesAt CX X σ (E σ))
    (ht : eval (.Call (.Attribute o m apos) [] [] pos) X.env = (do
      let ov ← eval o X.env
      standAt apos.atName
      let (f, first) ← holding [ov] (getMethod ov m pl)
      callWith pos f first (backTo pos (starEach [] X.env)) (backToKw pos (keywordEach [] X.env))) := by rfl) :
    PE X (.Call (.Attribute o m apos) [] [] pos) (tMethE C m sp E ta tNil) := by
  refine ⟨fun pins s σ H Q I h => ?_⟩
  refine PySem.W.methodCall_KW (pl := pl) (thn (he.run pins s σ H _ I h) fun u s1 ⟨x, H1, I1, rx, a, dx, fs, ex, ea, l, q⟩ => ?_) ht
  subst ex
  obtain rfl : u = Value.ref a := rx
  refine getmeth_ok I1 ea c hm l ?_
  exact PySem.W.callWith_K0 (first := [.ref a]) I1.kIn hm.kp (run_fnS (us := [.ref a]) (vs := [.ref a]) F hr hb (hx σ) I1 (.cons rfl .nil) q)
def tMakeE (C : Addr) (sp : Sp) (E : L2.St → XK) (t : TA) : TE := fun σ H Q => t σ H fun vs H1 => ∀ x dx, H1 x = none → H1 dx = none → dx ≠ x → sp (.ref x :: vs) (upd (upd H1 dx (.own x)) x (.ins C dx [])) (fun v H2 => v = .non ∧ Q (.ref x) H2) (E σ)
theorem run_makeE {pins : List (Addr × Obj)} {σ : L2.St} {H : Hp} {s : Shared} {Q : VK} {us : List Value} {vs : List V} (M : Mk X.K C f) (F : FnOk X.prog X.w X.K X.mg X.base CX k f fd ps sp) (hr : Room (k + 1) X.A) (hb : Binds X.K fd ps [])
    (hx : ∀ σ, PassesAt CX X σ (E σ)) (I : Inv X pins σ H s) (r : Vals vs us)
    (h : ∀ x dx, H x = none → H dx = none → dx ≠ x → sp (.ref x :: vs) (upd (upd H dx (.own x)) x (.ins C dx [])) (fun v H2 => v = .non ∧ Q (.ref x) H2) (E σ)) :
    wpAny (model X.prog X.w) X.A (call (.ref C) us) (EP X pins σ Q) X.xe s := by
  have hq := h (s.heap.objs.size + 1) s.heap.objs.size (I.hok.fresh (Nat.le_succ _)) (I.hok.fresh (Nat.le_refl _)) (Nat.ne_of_lt (Nat.lt_succ_self _))
  have I2 := Inv.made (C := C) I
  have r2 : Vals (V.ref (s.heap.objs.size + 1) :: vs) (Value.ref (s.heap.objs.size + 1) :: us) := .cons rfl r
  have hl : (Value.ref (s.heap.objs.size + 1) :: us ++ []).length = ps.length := by
    have e := r2.length
    rw [F.len _ _ _ _ hq] at e
    rw [List.append_nil]
    exact e.symm
  have bnd := hb _ (Value.ref (s.heap.objs.size + 1) :: us) I2.kIn hl
  rw [List.append_nil] at bnd
  refine wpAny_call (make_map (f := f) I.kIn M.makes M.init (beq_iff_eq.mp M.fn) (codeAny_mono (F.run _ X.stack _ _ ⟨Value.ref (s.heap.objs.size + 1) :: us, []⟩ (Value.ref (s.heap.objs.size + 1) :: us) _ _ (E σ) (hr.make C us [])
    (I2.env0.make C us []) bnd r2 hq) fun r s' hq' => ?_))
  cases r with
  | error e => exact hx σ pins _ _ e s' I2 hq'
  | ok fl =>
    cases fl with
    | ret u =>
      obtain ⟨v, H', I3, rv, ev, q3⟩ := I2.after hq'
      subst ev
      exact ⟨rv, ⟨V.ref (s.heap.objs.size + 1), H', I3, rfl, q3⟩⟩
    | next => exact False.elim hq'
    | brk => exact False.elim hq'
    | cont => exact False.elim hq'
/-- C(e, ..), its __init__ may raise -/
theorem pe_makeE (M : Mk X.K C f) (F : FnOk X.prog X.w X.K X.mg X.base CX k f fd ps sp) (hr : Room (k + 1) X.A) (hg : Gl X x) (hm : X.mg x = some (.ref C)) (hb : Binds X.K fd ps []) (hx : ∀ σ, PassesAt CX X σ (E σ))
    (ha : PA X (e :: es) t) (hdb : (x == ("__debug__" : Str)) = false := by decide) (he : starEach (e :: es) X.env = (false, eval e X.env) :: starEach es X.env := by rfl) (hpl : (backTo pos (starEach es X.env)).any (·.1) = false := by rfl) :
    PE X (.Call (.Name x p) (e :: es) [] pos) (tMakeE C sp E t) := by
  refine ⟨fun pins s σ H Q I h => ?_⟩
  refine wpAny_Call_Name_kw (ld_glob I hg hm ?_ hdb)
  refine PySem.W.callWith_K (h₀ := X.base) I.ok.mod.kin M.kp (thn (ha.run pos pins s σ H _ I h) fun us s1 ⟨vs, H1, I1, r, q⟩ => ⟨I1.kIn, ?_⟩) he hpl
  exact run_makeE M F hr hb hx I1 r q
end
end Vf

set_option maxRecDepth 100000
set_option maxHeartbeats 8000000
namespace Vf
open PySem PySem.Spec PyProof.Rows L2
section
variable {P : Program} {w : World} {K : PySem.W.Frag} {mg : Str → Option Value} {base : Heap}
def sp_is_intG (K : PySem.W.Frag) : Sp := fun vs H Q _ => ∃ (v : V) (o : Option Int), vs = [v] ∧ IntV K H v o ∧ Q (.bl o.isSome) H
theorem ok_is_intG {f : Addr} {fd : FuncData} (F : Fun K "is_integer" "is_integer" s_is_integer f fd) (T : Txt0 K mg) : FnOk P w K mg base CX0 1 f fd p_is_integer (sp_is_intG K) := by
  refine F.ok sc_is_integer (fun vs H Q E h => ?_) (fun cdv A outer s H vs Q E hr h => ?_)
  · obtain ⟨v, o, rfl, _⟩ := h
    rfl
  · obtain ⟨v, o, rfl, hv, k⟩ := h
    refine ⟨_, pss_one (ps_ret (pe_and (ta := tCB (rIsi K) (tCons (tVar 0) (tCons (tC (.ty "int")) tNil))) (pe_callB call_isi (by rfl) T.isinstance boot_isinstance (pa_cons (pv 0) (pa_cons (pe_bltn (by rfl) T.int (by decide +kernel) (v := .ty "int") rfl) pa_nil)))
        (pe_one (pe_not (ta := tCB (rIsi K) (tCons (tVar 0) (tCons (tC (.ty "bool")) tNil))) (pe_callB call_isi (by rfl) T.isinstance boot_isinstance (pa_cons (pv 0) (pa_cons (pe_bltn (by rfl) T.bool (by decide +kernel) (v := .ty "bool") rfl) pa_nil))))))), ?_⟩
    cases hv with
    | int i =>
      refine ⟨_, rfl, _, _, _, _, true, rfl, .ty _, .base (.int _), kit_ty (by decide +kernel), true, rfl, iteT ?_⟩
      exact ⟨_, rfl, _, _, _, _, false, rfl, .ty _, .base (.int _), kit_ty (by decide +kernel), _, rfl, k⟩
    | bl b =>
      refine ⟨_, rfl, _, _, _, _, true, rfl, .ty _, .base (.bl _), kit_ty (by decide +kernel), true, rfl, iteT ?_⟩
      exact ⟨_, rfl, _, _, _, _, true, rfl, .ty _, .base (.bl _), kit_ty (by decide +kernel), _, rfl, k⟩
    | no h =>
      obtain ⟨t, ty, kt⟩ := h
      exact ⟨_, rfl, _, _, _, _, false, rfl, .ty _, ty, kt, false, rfl, iteF k⟩
def inO (o : Option Int) (lo hi : Int) : Bool := match o with
  | some i => decide (lo ≤ i) && decide (i ≤ hi)
  | none => false
def sp_withinG (K : PySem.W.Frag) : Sp := fun vs H Q _ => ∃ (v : V) (o : Option Int) (lo hi : Int), vs = [v, .int lo, .int hi] ∧ IntV K H v o ∧ Q (.bl (inO o lo hi)) H
theorem ok_withinG {f : Addr} {fd : FuncData} (F : Fun K "is_integer_within" "is_integer_within" s_is_integer_within f fd) (GI : OkF P w K mg base CX0 "is_integer" p_is_integer 1 (sp_is_intG K)) : FnOk P w K mg base CX0 2 f fd p_is_integer_within (sp_withinG K) := by
  refine F.ok sc_is_integer_within (fun vs H Q E h => ?_) (fun cdv A outer s H vs Q E hr h => ?_)
  · obtain ⟨v, o, lo, hi, rfl, _⟩ := h
    rfl
  · obtain ⟨v, o, lo, hi, rfl, hv, k⟩ := h
    refine ⟨_, pss_one (ps_ret (pe_and (ta := tCall (sp_is_intG K) [] E0 (tCons (tVar 0) tNil)) (pe_fn GI hr rfl pass0 (pa_cons (pv 0) pa_nil)) (pe_one (pe_chain op_le op_le (pv 1) (pv 0) (pv 2))))), ?_⟩
    refine ⟨_, rfl, v, o, rfl, hv, o.isSome, rfl, ?_⟩
    cases o with
    | none => exact iteF k
    | some i =>
      cases hv
      have k : Q (.bl (decide (lo ≤ i) && decide (i ≤ hi))) H := k
      refine iteT ⟨_, rfl, _, rfl, lo, i, rfl, rfl, decide (lo ≤ i), rfl, ?_⟩
      by_cases h1 : lo ≤ i
      · rw [decide_eq_true h1] at k ⊢
        rw [Bool.true_and] at k
        exact iteT ⟨_, rfl, _, _, rfl, rfl, k⟩
      · rw [decide_eq_false h1] at k ⊢
        rw [Bool.false_and] at k
        exact iteF k
/-- a value that is no cell -/
def BadCell (K : PySem.W.Frag) (H : Hp) (cs : List (Str × Nat)) (v : V) : Prop := (∃ z, v = .str z ∧ z ∉ cs.map Prod.fst) ∨ NoT "str" K H v
theorem BadCell.same {H H' : Hp} {cs : List (Str × Nat)} {v : V} (h : BadCell K H cs v) (s : Same H H') : BadCell K H' cs v := h.imp id fun n => n.same s
/-- UnknownCell(v) is raised -/
def UnkOut (CE : Addr) (v : V) (E : XK) (H : Hp) : Prop := ∀ d, H d = none → E (.ref CE) (some d) (upd H d (.xd [("cell", v)]))
def sp_lineX (K : PySem.W.Frag) (C CE : Addr) : Sp := fun vs H Q E => ∃ (p sd nd : Addr) (cs : List (Str × Nat)) (r : Nat) (ls : List (List Str)) (v : V), vs = [.ref p, v] ∧ LayAt C H p sd nd cs r ls ∧ ls.flatten.Nodup ∧ ls.flatten.Perm (cs.map Prod.fst) ∧
  ((BadCell K H cs v ∧ UnkOut CE v E H) ∨ ∃ (z : Str) (j : Nat) (ws : List Str), v = .str z ∧ ls[j]? = some ws ∧ z ∈ ws ∧ Q (.int (j : Int)) H)
theorem ok_lineX {f C CE : Addr} {fd : FuncData} (F : Fun K "line_of" "Layout.line_of" s_Layout_line_of f fd) (T : Txt0 K mg) (TL : TxtL K mg C) (EF : ErrF P w K mg base "UnknownCell" CE "cell") : FnOk P w K mg base (L2.CX P w) 3 f fd p_Layout_line_of (sp_lineX K C CE) := by
  refine F.okX sc_Layout_line_of (fun vs H Q E h => ?_) (fun cdv A outer s H vs Q E hr h => ?_)
  · obtain ⟨p, sd, nd, cs, r, ls, v, rfl, _⟩ := h
    rfl
  · obtain ⟨p, sd, nd, cs, r, ls, v, rfl, ⟨dx, t, qs, h1, h2, h3, h4, h5⟩, hnd, hpm, h⟩ := h
    refine ⟨_, pss_cons (ps_if (PW.pt (pw_or (pt_not (pt_val (pe_callB call_isi (by rfl) T.isinstance boot_isinstance (pa_cons (pv 1) (pa_cons (pe_bltn (by rfl) T.str boot_str (v := .ty "str") rfl) pa_nil)))))
        (pw_or1 (pt_cmp (pc_dnotin (hu_of hr) (pv 1) (pe_fld (pv 0) rfl)))))) (pss_one (ps_raiseE rfl EF (hr.mono (by decide)) (takes_of rfl rfl rfl rfl) (pv 1) (by rfl))) pss_nil)
      (pss_one (ps_ret (pe_dget (hu_of hr) (pe_fld (pv 0) rfl) (pv 1) (fun _ _ => rfl)))), ?_⟩
    rcases h with ⟨hb, k⟩ | ⟨z, j, ws, rfl, hj, hz, k⟩
    · rcases hb with ⟨z, rfl, hz⟩ | ⟨t9, ty, kt⟩
      · have gg := DGet.k (k := Sum.inr z) h3
        rw [num_none hnd fun q => hz (hpm.mem_iff.mp q)] at gg
        refine ⟨_, rfl, _, _, _, _, true, rfl, .ty _, .base (.str _), kit_ty (by decide +kernel), _, rfl, iteF ?_⟩
        exact ⟨_, rfl, _, rfl, p, C, dx, _, _, rfl, h1, TL.cl, TL.nN, lk_numbers, nd, _, rfl, gg, _, rfl, iteT ⟨_, rfl, mkO_err k⟩⟩
      · exact ⟨_, rfl, _, _, _, _, false, rfl, .ty _, ty, kt, _, rfl, iteT ⟨_, rfl, mkO_err k⟩⟩
    · have gg := DGet.k (k := Sum.inr z) h3
      rw [num_val hnd hj hz] at gg
      refine ⟨_, rfl, _, _, _, _, true, rfl, .ty _, .base (.str _), kit_ty (by decide +kernel), _, rfl, iteF ?_⟩
      refine ⟨_, rfl, _, rfl, p, C, dx, _, _, rfl, h1, TL.cl, TL.nN, lk_numbers, nd, _, rfl, gg, _, rfl, iteF ?_⟩
      exact ⟨_, rfl, p, C, dx, _, _, rfl, h1, TL.cl, TL.nN, lk_numbers, _, rfl, nd, _, rfl, gg, k⟩
end
end Vf

set_option maxRecDepth 100000
set_option maxHeartbeats 4000000
namespace Vf
open PySem PySem.Spec PyProof.Rows L2
def eqs (k : Str) (v : Value) : Bool := match v with
  | .str n _ => n == k
  | _ => false
theorem eqs_gives {k : Str} {t : Tok} : ∀ {us : List Value} {ns : List Str}, StrsAre us ns → ∀ y ∈ us, MeetsSeq.EqGives y (.str k t) (eqs k y)
  | _, _, .nil => fun y hy => by cases hy
  | _, _, .cons n t' h => fun y hy => by
    rcases List.mem_cons.mp hy with e | e
    · rw [e]
      show MeetsSeq.EqGives (.str n t') (.str k t) (n == k)
      rw [← SeqAt.str_beq]
      exact SeqRoads2.EqGives.str n k t' t
    · exact eqs_gives h y e
theorem eqs_count {k : Str} : ∀ {us : List Value} {ns : List Str}, StrsAre us ns → us.countP (eqs k) = ns.count k
  | _, _, .nil => rfl
  | _, _, .cons n t h => by
    have ih := eqs_count (k := k) h
    rw [List.countP_cons, List.count_cons, ih] <;> rfl
theorem erase_mapS : ∀ (l : List Str) (j : Nat), (l.map V.str).eraseIdx j = (l.eraseIdx j).map V.str
  | [], j => by simp
  | a :: r, 0 => by simp
  | a :: r, j + 1 => by
    have ih := erase_mapS r j
    simp [ih]
theorem strs_get {us : List Value} {ns : List Str} (h : StrsAre us ns) : ∀ (j : Nat) (k : Str), ns[j]? = some k → ∃ t, us[j]? = some (.str k t) := by
  induction h with
  | nil => intro j k h; cases h
  | cons y t h ih =>
    intro j k e
    cases j with
    | zero => exact ⟨t, by rw [← Option.some.inj e]; rfl⟩
    | succ j => exact ih j k e
section
variable {X : Cx}
def rRemS : V → List V → Hp → VK → Prop := fun x xs H Q => ∃ (l : Addr) (ns : List Str) (k : Str), x = .ref l ∧ xs = [.str k] ∧ H l = some (.lst (ns.map V.str)) ∧ k ∈ ns ∧ Q .non (upd H l (.lst ((ns.erase k).map V.str)))
theorem first_at {k : Str} : ∀ {ns : List Str}, k ∈ ns → ∃ j, ns[j]? = some k ∧ (∀ m : Nat, m < j → ns[m]? ≠ some k) ∧ ns.erase k = ns.eraseIdx j
  | [], h => by cases h
  | a :: r, h => by
    by_cases e : a = k
    · subst e
      exact ⟨0, rfl, fun m hm => absurd hm (Nat.not_lt_zero _), by rw [List.erase_cons_head]; rfl⟩
    · obtain ⟨j, h1, h2, h3⟩ := first_at ((List.mem_cons.mp h).resolve_left fun q => e q.symm)
      refine ⟨j + 1, h1, fun m hm => ?_, ?_⟩
      · cases m with
        | zero => exact fun q => e (Option.some.inj q)
        | succ m => exact h2 m (by omega)
      · rw [List.erase_cons_tail (by simpa using e), h3]
        rfl
theorem mt_removeS : MtM X "list.remove" rRemS := by
  intro pins s σ H x xs v us Q I rx rxs h
  obtain ⟨l, ns, k, rfl, rfl, hH, hk, q⟩ := h
  obtain ⟨j, hj, hno, ee⟩ := first_at hk
  cases rx
  obtain ⟨u, rfl, ru⟩ := rxs.one
  obtain ⟨t, rfl⟩ := ru
  obtain ⟨z, its, n, r, hl, e⟩ := I.lstM hH
  have hi := L2.strs_of_vals r
  rw [List.length_map] at hl z
  have hjn : j < ns.length := (List.getElem?_eq_some_iff.mp hj).1
  have hjl : j < its.toArray.size := by rw [List.size_toArray]; omega
  refine call_meets PySem.F.slot_list_remove ⟨_, e, rfl⟩ PySem.F.entry_list_remove (PySem.F.args_list_remove_2 _ _)
    (MeetsSeq.list_remove l its.toArray n (.str k t) (eqs k) (fun y hy => eqs_gives hi y (by simpa using hy)) j hjl ?_ ?_ (by rw [List.size_toArray]; omega)) ⟨e, ?_⟩
  · obtain ⟨tj, hjt⟩ := strs_get hi j k hj
    obtain ⟨h1, h2⟩ := List.getElem?_eq_some_iff.mp hjt
    have e1 : its.toArray[j] = .str k tj := by simpa using h2
    rw [e1]
    exact beq_self_eq_true k
  · intro m hm hmj
    have hmn : m < ns.length := by omega
    obtain ⟨tm, hmt⟩ := strs_get hi m _ (List.getElem?_eq_getElem hmn)
    obtain ⟨h1, h2⟩ := List.getElem?_eq_some_iff.mp hmt
    have e1 : its.toArray[m] = .str ns[m] tm := by simpa using h2
    rw [e1]
    refine beq_eq_false_iff_ne.mpr fun e2 => hno m hmj ?_
    rw [List.getElem?_eq_getElem hmn, e2]
  · have rr := r.eraseIdx j
    rw [erase_mapS] at rr
    rw [ee] at q
    refine ⟨.non, _, I.lset (its' := its.eraseIdx j) (t' := s.toks) hH e ?_ rr ?_, rfl, q⟩
    · show its.toArray.eraseIdxIfInBounds j = (its.eraseIdx j).toArray
      rw [List.eraseIdxIfInBounds_toArray]
    · have z2 := List.length_eraseIdx_le ns j
      rw [List.length_map]
      omega
def rCntTS (K : PySem.W.Frag) : V → List V → Hp → VK → Prop := fun x xs H Q => ∃ (p : Addr) (ns : List Str) (k : Str), x = .ref p ∧ xs = [.str k] ∧ SqT K H p (ns.map V.str) ∧ Q (.int (ns.count k : Nat)) H
theorem mt_tcountS : MtR X "tuple.count" (rCntTS X.K) := by
  intro pins s σ H x xs v us Q I rx rxs h
  obtain ⟨p, ns, k, rfl, rfl, hs, q⟩ := h
  cases rx
  obtain ⟨u, rfl, ru⟩ := rxs.one
  obtain ⟨t, rfl⟩ := ru
  obtain ⟨its, rv, ⟨⟨cls, dd, data, sl⟩, ho, hc, n, hd⟩, hlen⟩ := I.tuple hs
  simp only at hc hd
  subst hc hd
  have hi := L2.strs_of_vals rv
  refine call_meets PySem.F.slot_tuple_count ⟨_, ho, rfl⟩ PySem.F.entry_tuple_count (PySem.F.args_tuple_count_2 _ _)
    (SeqAt.tuple_countAt p its.toArray n dd sl (.str k t) (eqs k)) ⟨ho, fun y hy => (eqs_gives hi y (by simpa using hy)).at _ _, ?_⟩
  have ec : its.toArray.toList.countP (eqs k) = ns.count k := eqs_count hi
  refine ⟨.int (ns.count k : Nat), H, I.tok _, ⟨s.toks, ?_⟩, q⟩
  show Value.int ((its.toArray.toList.countP (eqs k) : Nat) : Int) s.toks = Value.int ((ns.count k : Nat) : Int) s.toks
  rw [ec]
end
end Vf

set_option maxRecDepth 100000
set_option maxHeartbeats 4000000
namespace Vf
open PySem PySem.Spec PyProof.Rows L2
def rLenK (K : PySem.W.Frag) : List V → Hp → VK → Prop := fun xs H Q => ∃ p ys, xs = [.ref p] ∧ (SqL K H p ys ∨ SqT K H p ys) ∧ Q (.int ys.length) H
theorem cr_len {X : Cx} {K : PySem.W.Frag} (hK : X.K = K) : CallR X (.builtin "len") (rLenK K) := by
  subst hK
  exact call_len_seq
def rLst (K : PySem.W.Frag) : List V → Hp → VK → Prop := fun xs H Q => ∃ p ys, xs = [.ref p] ∧ (SqL K H p ys ∨ SqT K H p ys) ∧ ∀ l, H l = none → Q (.ref l) (upd H l (.lst ys))
theorem cr_lst {X : Cx} {K : PySem.W.Frag} (hK : X.K = K) : CallR X (.type "list") (rLst K) := by
  subst hK
  exact call_list_of
end Vf

set_option maxRecDepth 100000
set_option maxHeartbeats 16000000
namespace Vf
open PySem PySem.Spec PyProof.Rows L2
theorem SqL.same {K : PySem.W.Frag} {H H' : Hp} {a : Addr} {xs : List V} (h : SqL K H a xs) (s : Same H H') : SqL K H' a xs := by
  rcases h with (h | ⟨o, h⟩) | h
  · exact .inl (.inl (s _ _ h))
  · exact .inl (.inr ⟨o, s _ _ h⟩)
  · exact .inr h
theorem good_perm {a b : List (Str × Nat)} (p : a.Perm b) (g : GoodCs b) : GoodCs a :=
  ⟨fun e => g.some (by rw [e] at p; exact p.nil_eq.symm), by rw [p.length_eq]; exact g.few, fun c hc => g.name c (p.mem_iff.mp hc), fun c hc => g.size c (p.mem_iff.mp hc), (p.map Prod.fst).nodup_iff.mpr g.nd⟩
theorem srtCs_same {a b : List (Str × Nat)} (p : a.Perm b) (g : GoodCs b) : srtCs a = srtCs b := by
  have ga := good_perm p g
  unfold srtCs
  rw [srt_same (p.map Prod.fst)]
  refine List.map_congr_left fun z hz => ?_
  have hz' := (srt_perm _).mem_iff.mp hz
  obtain ⟨c, hc, rfl⟩ := List.mem_map.mp hz'
  unfold sizeOfD
  rw [size_of_mem g.nd hc, size_of_mem ga.nd (p.mem_iff.mpr hc)]
theorem str_inj {a b : List Str} (h : a.map V.str = b.map V.str) : a = b := by
  induction a generalizing b with
  | nil => cases b with
    | nil => rfl
    | cons y b => cases h
  | cons x a ih =>
    cases b with
    | nil => cases h
    | cons y b =>
      rw [List.map_cons, List.map_cons] at h
      injection h with h1 h2
      rw [V.str.inj h1, ih h2]
/-- a list of lists of texts, no list twice -/
structure Own (H : Hp) (l : Addr) (ps : List (Addr × List Str)) : Prop where
  at_ : H l = some (.lst (ps.map fun p => V.ref p.1))
  nd : (ps.map Prod.fst).Nodup
  each : ∀ p ∈ ps, H p.1 = some (.lst (p.2.map V.str))
theorem Own.same {H H' : Hp} {l : Addr} {ps : List (Addr × List Str)} (h : Own H l ps) (s : Same H H') : Own H' l ps := ⟨s _ _ h.at_, h.nd, fun p hp => s _ _ (h.each p hp)⟩
theorem Own.ne {H : Hp} {l : Addr} {ps : List (Addr × List Str)} (h : Own H l ps) {q : Addr × List Str} (hq : q ∈ ps) : q.1 ≠ l := fun z => by
  have e := h.each q hq
  rw [z, h.at_] at e
  have e2 := HO.lst.inj (Option.some.inj e)
  cases ps with
  | nil => cases hq
  | cons y ys =>
    cases e3 : q.2 with
    | nil => rw [e3] at e2; cases e2
    | cons x r => rw [e3] at e2; cases (List.cons.inj e2).1
theorem Own.set {H : Hp} {l a : Addr} {ps : List (Addr × List Str)} {k : Nat} {ws ws' : List Str} (h : Own H l ps) (hk : ps[k]? = some (a, ws)) : Own (upd H a (.lst (ws'.map V.str))) l (ps.set k (a, ws')) := by
  have hm := List.mem_of_getElem? hk
  have hl : k < ps.length := (List.getElem?_eq_some_iff.mp hk).1
  have e1 : (ps.set k (a, ws')).map Prod.fst = ps.map Prod.fst := by
    refine List.ext_getElem? fun j => ?_
    rw [List.getElem?_map, List.getElem?_map]
    by_cases hj : j = k
    · subst hj
      rw [List.getElem?_set_self hl, hk]
      rfl
    · rw [List.getElem?_set_ne (Ne.symm hj)]
  have e2 : (ps.set k (a, ws')).map (fun p => V.ref p.1) = ps.map fun p => V.ref p.1 := by
    have := congrArg (List.map V.ref) e1
    rw [List.map_map, List.map_map] at this
    exact this
  refine ⟨by rw [e2, upd_ne (h.ne hm).symm]; exact h.at_, by rw [e1]; exact h.nd, fun p hp => ?_⟩
  obtain ⟨j, hj⟩ := List.mem_iff_getElem?.mp hp
  by_cases hjk : j = k
  · subst hjk
    rw [List.getElem?_set_self hl] at hj
    obtain rfl := Option.some.inj hj
    exact upd_same
  · rw [List.getElem?_set_ne (Ne.symm hjk)] at hj
    have hpa : p.1 ≠ a := fun z => hjk (by
      have h1 : (ps.map Prod.fst)[j]? = some a := by rw [List.getElem?_map, hj, ← z]; rfl
      have h2 : (ps.map Prod.fst)[k]? = some a := by rw [List.getElem?_map, hk]; rfl
      exact (List.getElem?_inj (by rw [List.length_map]; exact (List.getElem?_eq_some_iff.mp hj).1) h.nd).mp (h1.trans h2.symm))
    rw [upd_ne hpa]
    exact h.each p (List.mem_of_getElem? hj)
theorem snd_set {ps : List (Addr × List Str)} {k : Nat} {a : Addr} {ws : List Str} : (ps.set k (a, ws)).map Prod.snd = (ps.map Prod.snd).set k ws := List.map_set ..
theorem full_refs : ∀ ps : List (Addr × List Str), (ps.filterMap fun q => if decide (q.2 ≠ []) = true then some (V.ref q.1) else none) = (ps.filter fun q => decide (q.2 ≠ [])).map fun q => V.ref q.1
  | [] => rfl
  | (a, []) :: r => by
    rw [List.filter_cons_of_neg (by simp), List.filterMap_cons_none (by simp)]
    exact full_refs r
  | (a, x :: y) :: r => by
    rw [List.filter_cons_of_pos (by simp), List.filterMap_cons_some (b := V.ref a) (by simp), List.map_cons, full_refs r]
theorem full_snd : ∀ ps : List (Addr × List Str), (ps.filter fun q => decide (q.2 ≠ [])).map Prod.snd = full (ps.map Prod.snd)
  | [] => rfl
  | (a, []) :: r => by
    have := full_snd r
    unfold full at this ⊢
    rw [List.filter_cons_of_neg (by simp), List.map_cons, List.filter_cons_of_neg (by simp), this]
  | (a, x :: y) :: r => by
    have := full_snd r
    unfold full at this ⊢
    rw [List.filter_cons_of_pos (by simp), List.map_cons, List.map_cons, List.filter_cons_of_pos (by simp), this]
theorem wl_of {K : PySem.W.Frag} {l : Addr} (ps : List (Addr × List Str)) : Walk (Itl K l) ps.length (fun H => SqL K H l (ps.map fun p => V.ref p.1)) (YAt (ps.map fun p => V.ref p.1)) := (walk_list (K := K) (a := l) (xs := ps.map fun p => V.ref p.1) |> fun z => by rw [List.length_map] at z; exact z)
theorem wt_of {K : PySem.W.Frag} {l : Addr} (ps : List (Addr × List Str)) : Walk (Itt K l) ps.length (fun H => SqT K H l (ps.map fun p => V.ref p.1)) (YAt (ps.map fun p => V.ref p.1)) := (walk_tup (K := K) (a := l) (xs := ps.map fun p => V.ref p.1) |> fun z => by rw [List.length_map] at z; exact z)
theorem at_map {ps : List (Addr × List Str)} {i : Nat} {q : Addr × List Str} {x : V} (h : ps[i]? = some q) (hx : (ps.map fun p => V.ref p.1)[i]? = some x) : x = V.ref q.1 := by
  rw [List.getElem?_map, h] at hx
  exact (Option.some.inj hx).symm
theorem lists_of {H : Hp} {Fr : Addr → Prop} : ∀ (ls : List (List Str)) (xs : List V), xs.length = ls.length → (∀ (i : Nat) (ws : List Str) (v : V), ls[i]? = some ws → xs[i]? = some v → ∃ t, v = .ref t ∧ H t = some (.lst (ws.map V.str)) ∧ Fr t) →
    ∃ qs : List (Addr × List Str), xs = qs.map (fun q => V.ref q.1) ∧ qs.map Prod.snd = ls ∧ ∀ q ∈ qs, H q.1 = some (.lst (q.2.map V.str)) ∧ Fr q.1
  | [], [], _, _ => ⟨[], rfl, rfl, (fun _ h => nomatch h)⟩
  | [], _ :: _, h, _ => by simp at h
  | _ :: _, [], h, _ => by simp at h
  | ws :: ls, v :: xs, h, hp => by
    obtain ⟨t, rfl, ht⟩ := hp 0 ws v rfl rfl
    obtain ⟨qs, e1, e2, e3⟩ := lists_of ls xs (by simpa using h) fun i a u h1 h2 => hp (i + 1) a u (by simpa using h1) (by simpa using h2)
    refine ⟨(t, ws) :: qs, by rw [e1]; rfl, by rw [← e2]; rfl, fun q hq => ?_⟩
    rcases List.mem_cons.mp hq with rfl | hq
    · exact ht
    · exact e3 q hq
/-- lists of different contents are different lists -/
theorem apart_of {H : Hp} : ∀ {qs : List (Addr × List Str)}, (∀ q ∈ qs, H q.1 = some (.lst (q.2.map V.str))) → (qs.map Prod.snd).Nodup → (qs.map Prod.fst).Nodup
  | [], _, _ => List.nodup_nil
  | q :: qs, h, nd => by
    rw [List.map_cons, List.nodup_cons] at nd ⊢
    refine ⟨fun z => ?_, apart_of (fun x hx => h x (List.mem_cons_of_mem _ hx)) nd.2⟩
    obtain ⟨p, hp, e⟩ := List.mem_map.mp z
    have h1 := h q List.mem_cons_self
    have h2 := h p (List.mem_cons_of_mem _ hp)
    rw [e, h1] at h2
    exact nd.1 (by rw [str_inj (HO.lst.inj (Option.some.inj h2))]; exact List.mem_map_of_mem hp)
theorem nodup_lines : ∀ {ls : List (List Str)}, ls.flatten.Nodup → (∀ ws ∈ ls, ws ≠ []) → ls.Nodup
  | [], _, _ => List.nodup_nil
  | a :: ls, nd, ne => by
    rw [List.flatten_cons, List.nodup_append] at nd
    rw [List.nodup_cons]
    refine ⟨fun h => ?_, nodup_lines nd.2.1 fun ws hw => ne ws (List.mem_cons_of_mem _ hw)⟩
    cases e : a with
    | nil => exact ne a List.mem_cons_self e
    | cons x r =>
      have hx : x ∈ a := by rw [e]; exact List.mem_cons_self
      exact nd.2.2 x hx x (List.mem_flatten.mpr ⟨a, h, hx⟩) rfl
theorem flat_len2 : ∀ {ls : List (List Str)}, (∀ ws ∈ ls, ws ≠ []) → ls.length ≤ ls.flatten.length
  | [], _ => Nat.le_refl _
  | a :: ls, h => by
    have := flat_len2 fun ws hw => h ws (List.mem_cons_of_mem _ hw)
    have ha := List.length_pos_iff.mpr (h a List.mem_cons_self)
    rw [List.flatten_cons, List.length_append, List.length_cons]
    omega
section
variable {P : Program} {w : World} {K : PySem.W.Frag} {mg : Str → Option Value} {base : Heap}
def sp_movedX (K : PySem.W.Frag) (C CE CB : Addr) : Sp := fun vs H Q E => ∃ (p sd nd : Addr) (cs : List (Str × Nat)) (r : Nat) (ls : List (List Str)) (v u : V), vs = [.ref p, v, u] ∧ LayAt C H p sd nd cs r ls ∧ GoodCs cs ∧ srtCs cs = cs ∧ 1 ≤ r ∧ r ≤ 32 ∧ LsOk cs r ls ∧
  ((BadCell K H cs v ∧ UnkOut CE v E H) ∨ ∃ (z : Str) (o : Option Int), v = .str z ∧ z ∈ cs.map Prod.fst ∧ IntV K H u o ∧
    (moveO cs r ls z o = none → ∀ H', Same H H' → E (.ref CB) none H') ∧ ∀ m, moveO cs r ls z o = some m → ∀ q sd' nd' H', Same H H' → LayAt C H' q sd' nd' cs r (sortL (m.map srt)) → Q (.ref q) H')
theorem ok_movedX {f C CE CB fI fl : Addr} {fd fdI fdl : FuncData} (F : Fun K "moved" "Layout.moved" s_Layout_moved f fd) (T : Txt0 K mg) (TL : TxtL K mg C) (EB : ErrP K mg "BadLine" CB)
    (ml : Meth K C "line_of" fl) (Fl : FnOk P w K mg base (L2.CX P w) 3 fl fdl p_Layout_line_of (sp_lineX K C CE)) (bl : Binds K fdl p_Layout_line_of [])
    (GW : OkF P w K mg base CX0 "is_integer_within" p_is_integer_within 2 (sp_withinG K)) (GF : OkF P w K mg base CX0 "_filled" p_filled 1 (sp_filled K))
    (MK : Mk K C fI) (GI : FnOk P w K mg base CX0 4 fI fdI p_Layout_init (sp_Layout_init C)) (bI : Binds K fdI p_Layout_init []) :
    FnOk P w K mg base (L2.CX P w) 6 f fd p_Layout_moved (sp_movedX K C CE CB) := by
  refine F.okX sc_Layout_moved (fun vs H Q E h => ?_) (fun cdv A outer s H vs Q E hr h => ?_)
  · obtain ⟨p, sd, nd, cs, r, ls, v, u, rfl, _⟩ := h
    rfl
  · obtain ⟨p, sd, nd, cs, r, ls, v, u, rfl, lay, g, gs, r1, r32, lo, h⟩ := h
    have hr3 : Room 3 _ := hr.mono (by decide)
    have hr2 : Room 2 _ := hr.mono (by decide)
    have hr1 : Room 1 _ := hr.mono (by decide)
    refine ⟨_, pss_cons (ps_set (i := 3) sc_Layout_moved.nd rfl (Or.inl rfl) (pe_methE (pv 0) TL.cl ml Fl hr3 bl (fun σ => passAt (takes_of rfl rfl rfl rfl) σ) (pa_cons (pv 1) pa_nil)))
      (pss_cons (ps_if (pt_not (pt_val (pe_fn GW hr2 rfl pass0 (pa_cons (pv 2) (pa_cons pe_int (pa_cons (pe_callB call_len_seq (by rfl) T.len PySem.boot_len (pa_cons (pe_fld (pv 0) rfl) pa_nil)) pa_nil)))))) (pss_one (ps_raise0 rfl EB (takes_of rfl rfl rfl rfl) (by rfl))) pss_nil)
      (pss_cons (ps_setLc (i := 4) (own := [("names", 5)]) (g := gName 5) (tt := tYes) rfl sc_Layout_moved.nd rfl rfl (sw_true rfl rfl rfl (by decide +kernel)) (pi_tup (pe_fld (pv 0) rfl)) (blkOk_by (N := n_Layout_moved) (sc := defScope s_Layout_moved) (by decide +kernel))
          (fun _ _ _ _ _ => pg_name (i := 5) sc_Layout_moved.nd rfl (Or.inl rfl)) (fun _ _ _ _ _ => pts_nil) (fun _ _ _ _ _ => pe_callTy (cr_lst (K := K) rfl) (by rfl) T.list (by decide +kernel) (pa_cons (pv 5) pa_nil)))
      (pss_cons (ps_expr (pe_bm PySem.F.plainAttrs_list PySem.F.slot_list_append PySem.F.type_list_append mt_append (pv 4) (pa_cons (pe_lst pa_nil) pa_nil)))
      (pss_cons (ps_expr (pe_bm PySem.F.plainAttrs_list PySem.F.slot_list_remove PySem.F.type_list_remove mt_removeS (pe_ix ix_list (pv 4) (pv 3) (fun _ _ => rfl)) (pa_cons (pv 1) pa_nil)))
      (pss_cons (ps_expr (pe_bm PySem.F.plainAttrs_list PySem.F.slot_list_append PySem.F.type_list_append mt_append (pe_ix ix_list (pv 4) (pv 2) (fun _ _ => rfl)) (pa_cons (pv 1) pa_nil)))
      (pss_cons (ps_if (pt_cmpR op_gt (pe_fn GF hr1 rfl pass0 (pa_cons (pe_fld (pv 0) rfl) (pa_cons (pe_ix ix_list (pv 4) (pv 2) (fun _ _ => rfl)) pa_nil))) (pe_fld (pv 0) rfl) (nomark _)) (pss_one (ps_raise0 rfl EB (takes_of rfl rfl rfl rfl) (by rfl))) pss_nil)
      (pss_one (ps_ret (pe_make MK GI hr rfl TL.mgC bI .nil pass0 (pa_cons (pe_fld (pv 0) rfl) (pa_cons (pe_fld (pv 0) rfl) (pa_cons
          (pe_lc (own := [("names", 5)]) (g := gName 5) rfl sc_Layout_moved.nd (pi_list (pv 4)) (blkOk_by (N := n_Layout_moved) (sc := defScope s_Layout_moved) (by decide +kernel))
            (fun _ _ _ _ _ => pg_name (i := 5) sc_Layout_moved.nd rfl (Or.inl rfl)) (fun _ _ _ _ _ => pts_one (pt_cmpR op_gt (pe_callB (cr_len (K := K) rfl) (by rfl) T.len PySem.boot_len (pa_cons (pv 5) pa_nil)) pe_int (nomark _))) (fun _ _ _ _ _ => pv 5)) pa_nil)))))))))))), ?_⟩
    have noL : ¬ (("line_of" : Str)) = "_sizes" ∧ ¬ (("line_of" : Str)) = "room" ∧ ¬ (("line_of" : Str)) = "lines" ∧ ¬ (("line_of" : Str)) = "_numbers" := by decide +kernel
    obtain ⟨dx, t, qs, h1, h2, h3, h4, h5⟩ := id lay
    have ndf : ls.flatten.Nodup := lo.perm.nodup_iff.mpr g.nd
    rcases h with ⟨hb, kU⟩ | ⟨z, o, rfl, hz, hu, kB, kR⟩
    · exact ⟨_, rfl, p, dx, _, rfl, h1, lk_none noL, _, rfl, p, sd, nd, cs, r, ls, v, rfl, lay, ndf, lo.perm, .inl ⟨hb, kU⟩⟩
    obtain ⟨ws, hws, hzw⟩ : ∃ ws ∈ ls, z ∈ ws := List.mem_flatten.mp (lo.perm.mem_iff.mpr hz)
    obtain ⟨old, hold⟩ := List.mem_iff_getElem?.mp hws
    have lq : qs.length = ls.length := by rw [← h5, List.length_map]
    refine ⟨_, rfl, p, dx, _, rfl, h1, lk_none noL, _, rfl, p, sd, nd, cs, r, ls, _, rfl, lay, ndf, lo.perm, .inr ⟨z, old, ws, rfl, hold, hzw, ?_⟩⟩
    refine ⟨_, rfl, _, rfl, p, C, dx, _, _, rfl, h1, TL.cl, TL.nL, lk_lines, t, _, rfl, .inr (SqT.of h4.1), u, o, 0, _, rfl, hu, _, rfl, ?_⟩
    rw [List.length_map, lq]
    by_cases hin : inO o 0 (ls.length : Int) = true
    case neg =>
      rw [Bool.not_eq_true _ |>.mp hin]
      refine iteT (kB ?_ H (Same.refl H))
      cases o with
      | none => rfl
      | some i =>
        unfold moveO
        refine if_neg fun q => hin ?_
        show (decide ((0 : Int) ≤ i) && decide (i ≤ (ls.length : Int))) = true
        rw [decide_eq_true q.1, decide_eq_true q.2]
        rfl
    rw [hin]
    obtain ⟨i, rfl, hi⟩ : ∃ i : Nat, o = some (i : Int) ∧ i ≤ ls.length := by
      cases o with
      | none => cases hin
      | some i =>
        have hin : (decide ((0 : Int) ≤ i) && decide (i ≤ (ls.length : Int))) = true := hin
        rw [Bool.and_eq_true, decide_eq_true_eq, decide_eq_true_eq] at hin
        obtain ⟨j, rfl⟩ := Int.eq_ofNat_of_zero_le hin.1
        exact ⟨j, rfl, by omega⟩
    cases hu
    have hmo : moveO cs r ls z (some (i : Int)) = moveL cs r ls z i := by
      show (if (0 : Int) ≤ (i : Int) ∧ (i : Int) ≤ (ls.length : Int) then moveL cs r ls z (i : Int).toNat else none) = _
      rw [if_pos ⟨by omega, by omega⟩, Int.toNat_natCast]
    rw [hmo] at kB kR
    have l6 : ls.flatten.length ≤ 6 := by
      rw [lo.perm.length_eq, List.length_map]
      exact g.few
    have lfl := flat_len2 lo.ne
    refine iteF ⟨_, rfl, p, C, dx, _, _, rfl, h1, TL.cl, TL.nL, lk_lines, t, rfl, ⟨_, SqT.of h4.1⟩, fun D hD => lc_ad qs (wt_of qs) hD (fun q v H' => ∃ a, v = .ref a ∧ H' a = some (.lst (q.2.map V.str)) ∧ H a = none) (by omega) (fun H5 s5 => SqT.of (s5 _ _ h4.1)) ?_ ?_⟩
    · rintro j q x H6 H7 hj s6 ⟨acc, hacc⟩ ⟨rfl, hx⟩ R hR
      obtain rfl := at_map hj hx
      refine ⟨rfl, _, rfl, q.1, _, rfl, .inr (SqT.of (s6 _ _ (h4.2 q (List.mem_of_getElem? hj)))), fun a ha => ?_⟩
      exact hR (.ref a) _ (same_new ha) fun H8 b8 => ⟨a, rfl, b8 a _ (ne_of_none hacc ha).symm upd_same, none_back s6 ha⟩
    · intro H6 xs s6 hL hlen hpr
      obtain ⟨ps, rfl, eps, hps⟩ := lists_of (H := H6) (Fr := fun a => H a = none) ls xs (by rw [hlen, lq]) fun j ws v e1 e2 => by
        rw [← h5, List.getElem?_map] at e1
        cases e : qs[j]? with
        | none => rw [e] at e1; cases e1
        | some q =>
          rw [e] at e1
          obtain rfl : q.2 = ws := Option.some.inj e1
          obtain ⟨a, e3, e4⟩ := hpr j q v e e2
          exact ⟨a, e3, e4⟩
      have lps : ps.length = ls.length := by rw [← eps, List.length_map]
      have own6 : Own H6 D ps := ⟨hL, apart_of (fun q hq => (hps q hq).1) (by rw [eps]; exact nodup_lines ndf lo.ne), fun q hq => (hps q hq).1⟩
      refine ⟨_, rfl, .inl ⟨rfl, _, SqL.of own6.at_⟩, Nat.zero_le _, fun n hn => ⟨D, _, _, rfl, rfl, same_new hn _ _ own6.at_, by rw [List.length_map, sizeLine_eq]; omega, ?_⟩⟩
      have hnD : n ≠ D := (ne_of_none hL hn).symm
      have own7 : Own (upd (upd H6 n (.lst [])) D (.lst ((ps.map fun q => V.ref q.1) ++ [.ref n]))) D (ps ++ [(n, [])]) := by
        refine ⟨by rw [upd_same, List.map_append]; rfl, ?_, fun q hq => ?_⟩
        · rw [List.map_append, List.nodup_append]
          refine ⟨own6.nd, by simp, fun a ha b hb e => ?_⟩
          obtain ⟨q, hq, rfl⟩ := List.mem_map.mp ha
          obtain rfl : b = n := List.mem_singleton.mp hb
          exact ne_of_none (own6.each q hq) hn e
        · rcases List.mem_append.mp hq with hq | hq
          · rw [upd_ne (own6.ne hq), upd_ne (ne_of_none (own6.each q hq) hn)]
            exact own6.each q hq
          · obtain rfl := List.mem_singleton.mp hq
            rw [upd_ne hnD, upd_same]
            rfl
      have s7 : Same H (upd (upd H6 n (.lst [])) D (.lst ((ps.map fun q => V.ref q.1) ++ [.ref n]))) := same_upd (s6.trans (same_new hn)) hD
      have fresh7 : ∀ q ∈ ps ++ [(n, ([] : List Str))], H q.1 = none := fun q hq => by
        rcases List.mem_append.mp hq with hq | hq
        · exact (hps q hq).2
        · rw [List.mem_singleton.mp hq]
          exact none_back s6 hn
      generalize (upd (upd H6 n (.lst [])) D (.lst ((ps.map fun q => V.ref q.1) ++ [.ref n]))) = H7 at own7 s7 ⊢
      -- the cell leaves its line
      obtain ⟨a, ha⟩ : ∃ a, ps[old]? = some (a, ws) := by
        have : (ps.map Prod.snd)[old]? = some ws := by rw [eps]; exact hold
        rw [List.getElem?_map] at this
        cases e : ps[old]? with
        | none => rw [e] at this; cases this
        | some q =>
          rw [e] at this
          exact ⟨q.1, by rw [← Option.some.inj this]⟩
      have hlo : old < ps.length := (List.getElem?_eq_some_iff.mp ha).1
      have ha7 : (ps ++ [(n, ([] : List Str))])[old]? = some (a, ws) := by rw [List.getElem?_append_left hlo]; exact ha
      have ham := List.mem_of_getElem? ha7
      refine ⟨_, rfl, _, rfl, D, _, _, .ref a, rfl, rfl, SqL.of own7.at_, atI_nat (j := old) (by rw [List.getElem?_map, ha7]; rfl), .inl ⟨rfl, _, SqL.of (own7.each _ ham)⟩, _, rfl, a, ws, z, rfl, rfl, own7.each _ ham, hzw, ?_⟩
      have own8 := own7.set (ws' := ws.erase z) ha7
      have s8 : Same H (upd H7 a (.lst ((ws.erase z).map V.str))) := same_upd s7 (fresh7 _ ham)
      have fresh8 : ∀ q ∈ (ps ++ [(n, ([] : List Str))]).set old (a, ws.erase z), H q.1 = none := fun q hq => by
        rcases List.mem_or_eq_of_mem_set hq with hq | rfl
        · exact fresh7 q hq
        · exact fresh7 (a, ws) ham
      have esnd8 : ((ps ++ [(n, ([] : List Str))]).set old (a, ws.erase z)).map Prod.snd = dropZ z ls ++ [[]] := by
        rw [snd_set, List.map_append, eps, List.set_append_left _ _ (by rw [← lps]; exact hlo), erase_drop ndf hold hzw]
        rfl
      have len8 : ((ps ++ [(n, ([] : List Str))]).set old (a, ws.erase z)).length = ls.length + 1 := by rw [List.length_set, List.length_append, lps]; rfl
      generalize (ps ++ [(n, ([] : List Str))]).set old (a, ws.erase z) = ps8 at own8 fresh8 esnd8 len8
      generalize (upd H7 a (.lst ((ws.erase z).map V.str))) = H8 at own8 s8 ⊢
      -- it comes to its new one
      obtain ⟨b, vs, hb8⟩ : ∃ b vs, ps8[i]? = some (b, vs) := ⟨_, _, List.getElem?_eq_getElem (by omega)⟩
      have hbm := List.mem_of_getElem? hb8
      have evs : vs = (dropZ z ls ++ [[]]).getD i [] := by
        rw [← esnd8, List.getD_eq_getElem?_getD, List.getElem?_map, hb8]
        rfl
      have hvs : vs.length ≤ 6 := by
        rw [evs, drop_get]
        refine Nat.le_trans (List.length_filter_le _ _) ?_
        rw [List.getD_eq_getElem?_getD]
        cases e : ls[i]? with
        | none => exact Nat.zero_le _
        | some u => exact Nat.le_trans (List.sublist_flatten_of_mem (List.mem_of_getElem? e)).length_le l6
      refine ⟨_, rfl, _, rfl, D, _, _, .ref b, rfl, rfl, SqL.of own8.at_, atI_nat (j := i) (by rw [List.getElem?_map, hb8]; rfl), .inl ⟨rfl, _, SqL.of (own8.each _ hbm)⟩, _, rfl, b, _, _, rfl, rfl, own8.each _ hbm, ?_, ?_⟩
      · rw [List.length_map, sizeLine_eq]; show vs.length < 16777216; omega
      rw [show vs.map V.str ++ [V.str z] = (vs ++ [z]).map V.str from by rw [List.map_append]; rfl]
      have own9 := own8.set (ws' := vs ++ [z]) hb8
      have s9 : Same H (upd H8 b (.lst ((vs ++ [z]).map V.str))) := same_upd s8 (fresh8 _ hbm)
      have esnd9 : (ps8.set i (b, vs ++ [z])).map Prod.snd = putAt (dropZ z ls ++ [[]]) i z := by
        rw [snd_set, esnd8, evs]
        rfl
      have hb9 : (ps8.set i (b, vs ++ [z]))[i]? = some (b, vs ++ [z]) := by rw [List.getElem?_set_self (by omega)]
      have len9 : (ps8.set i (b, vs ++ [z])).length = ls.length + 1 := by rw [List.length_set, len8]
      generalize ps8.set i (b, vs ++ [z]) = ps9 at own9 esnd9 hb9 len9
      generalize (upd H8 b (.lst ((vs ++ [z]).map V.str))) = H9 at own9 s9 ⊢
      have hsub : ∀ y ∈ vs ++ [z], y ∈ cs.map Prod.fst := fun y hy => by
        rcases List.mem_append.mp hy with hy | hy
        · rw [evs, drop_get] at hy
          obtain ⟨u, hu, hyu⟩ := get_in ((List.mem_filter.mp hy).1)
          exact lo.perm.mem_iff.mp (List.mem_flatten.mpr ⟨u, List.mem_of_getElem? hu, hyu⟩)
        · rw [List.mem_singleton.mp hy]
          exact hz
      refine ⟨_, rfl, p, C, dx, _, _, rfl, s9 _ _ h1, TL.cl, TL.nS, lk_sizes, _, rfl, _, rfl, D, _, _, .ref b, rfl, rfl, SqL.of own9.at_, atI_nat (j := i) (by rw [List.getElem?_map, hb9]; rfl), sd, b, cs, vs ++ [z], rfl, s9 _ _ h2, SqL.of (own9.each _ (List.mem_of_getElem? hb9)), ?_, hsub, fun H10 s10 => ?_⟩
      · rw [List.length_append, List.length_singleton]; omega
      have s010 := s9.trans s10
      refine ⟨_, rfl, p, C, dx, _, _, rfl, s010 _ _ h1, TL.cl, TL.nR, lk_room, _, _, rfl, rfl, _, rfl, ?_⟩
      by_cases htot : total cs (vs ++ [z]) ≤ r
      case neg =>
        rw [decide_eq_true (by omega)]
        refine iteT (kB ?_ H10 s010)
        cases hm : moveL cs r ls z i with
        | none => rfl
        | some m => exact absurd (evs ▸ (move_eq lo g hm).1) htot
      rw [decide_eq_false (by omega)]
      cases hm : moveL cs r ls z i with
      | none => exact absurd (evs ▸ htot) (move_no hm)
      | some m =>
        have em := (move_eq lo g hm).2
        obtain ⟨pm, pe⟩ := put_good lo g hz hi (evs ▸ htot)
        have own10 := own9.same s10
        refine iteF ⟨_, rfl, p, C, dx, _, _, rfl, s010 _ _ h1, TL.cl, TL.nS, lk_sizes, _, rfl, p, C, dx, _, _, rfl, s010 _ _ h1, TL.cl, TL.nR, lk_room, _, rfl, D, rfl, ⟨_, SqL.of own10.at_⟩, fun D2 hD2 => lc_fm ps9 (wl_of ps9) hD2 (fun q => if decide (q.2 ≠ []) = true then some (V.ref q.1) else none) (by omega) (fun H5 s5 => SqL.of (s5 _ _ own10.at_)) ?_ ?_⟩
        · rintro j q x H12 H13 hj s12 ⟨rfl, hx⟩ R hR
          obtain rfl := at_map hj hx
          refine ⟨rfl, _, rfl, q.1, _, rfl, .inl (SqL.of (s12 _ _ (own10.each q (List.mem_of_getElem? hj)))), _, _, rfl, rfl, _, rfl, ?_⟩
          rw [List.length_map]
          by_cases e : q.2 = []
          · rw [if_neg (by simp [e])] at hR
            rw [e]
            exact iteF (hR _ (Same.refl _))
          · rw [if_pos (by simp [e])] at hR
            rw [decide_eq_true (by have := List.length_pos_iff.mpr e; omega)]
            exact iteT ⟨_, rfl, hR _ (Same.refl _)⟩
        · intro H12 s12 hL2
          rw [full_refs] at hL2
          have eful := full_snd ps9
          rw [esnd9] at eful
          have hin9 : ∀ q ∈ ps9.filter fun q => decide (q.2 ≠ []), q ∈ ps9 := fun q hq => (List.mem_filter.mp hq).1
          have il : InLines H12 D2 cs r (ps9.filter fun q => decide (q.2 ≠ [])) := by
            refine ⟨hL2, fun q hq => ⟨s12 _ _ (own10.each q (hin9 q hq)), ?_⟩, ?_⟩
            · exact pe q.2 (by rw [← eful]; exact List.mem_map_of_mem hq)
            · rw [List.flatMap_def, eful]
              exact pm
          have elo : linesOf (ps9.filter fun q => decide (q.2 ≠ [])) = sortL (m.map srt) := by
            rw [← em, ← eful]
            unfold linesOf
            rw [List.map_map]
            rfl
          refine fun x dx2 hx hdx hne => ?_
          have s0 : Same H12 (upd (upd H12 dx2 (.own x)) x (.ins C dx2 [])) := same_upd (same_new hdx) hx
          have s012 := s010.trans s12
          refine ⟨x, dx2, sd, D2, cs, r, _, rfl, upd_same, s0 _ _ (s012 _ _ h2), g, r1, r32, il.same s0, fun H13 sd' nd' b13 hsd hnd hsn lay' => ⟨rfl, ?_⟩⟩
          rw [gs, elo] at lay'
          exact kR m hm x sd' nd' H13 (s012.trans (b13.same s0 hx)) lay'
end
end Vf

set_option maxRecDepth 100000
set_option maxHeartbeats 4000000
namespace Vf
open PySem PySem.Spec PyProof.Rows L2
theorem nodup_mapOn {α β : Type} (f : α → β) : ∀ {l : List α}, l.Nodup → (∀ a ∈ l, ∀ b ∈ l, f a = f b → a = b) → (l.map f).Nodup
  | [], _, _ => List.nodup_nil
  | a :: l, h, hi => by
    have h' := List.nodup_cons.mp h
    rw [List.map_cons, List.nodup_cons]
    refine ⟨fun z => ?_, nodup_mapOn f h'.2 fun x hx y hy => hi x (List.mem_cons_of_mem _ hx) y (List.mem_cons_of_mem _ hy)⟩
    obtain ⟨b, hb, e⟩ := List.mem_map.mp z
    have := hi b (List.mem_cons_of_mem _ hb) a List.mem_cons_self e
    exact h'.1 (this ▸ hb)
theorem nodup_bind {α β : Type} {f : α → List β} : ∀ {l : List α}, l.Nodup → (∀ a ∈ l, (f a).Nodup) → (∀ a ∈ l, ∀ b ∈ l, ∀ x, x ∈ f a → x ∈ f b → a = b) → (l.flatMap f).Nodup
  | [], _, _, _ => List.nodup_nil
  | a :: l, h, h1, h2 => by
    have h' := List.nodup_cons.mp h
    rw [List.flatMap_cons, List.nodup_append]
    refine ⟨h1 a List.mem_cons_self, nodup_bind h'.2 (fun b hb => h1 b (List.mem_cons_of_mem _ hb)) (fun b hb c hc => h2 b (List.mem_cons_of_mem _ hb) c (List.mem_cons_of_mem _ hc)), fun x hx y hy e => ?_⟩
    obtain ⟨b, hb, hyb⟩ := List.mem_flatMap.mp hy
    exact h'.1 (h2 a List.mem_cons_self b (List.mem_cons_of_mem _ hb) x hx (e ▸ hyb) ▸ hb)
theorem nodup_fm {α β : Type} (f : α → Option β) : ∀ {l : List α}, l.Nodup → (∀ a ∈ l, ∀ b ∈ l, ∀ x, f a = some x → f b = some x → a = b) → (l.filterMap f).Nodup
  | [], _, _ => List.nodup_nil
  | a :: l, h, hi => by
    have h' := List.nodup_cons.mp h
    have ih := nodup_fm f h'.2 fun x hx y hy => hi x (List.mem_cons_of_mem _ hx) y (List.mem_cons_of_mem _ hy)
    cases e : f a with
    | none => rw [List.filterMap_cons_none e]; exact ih
    | some x =>
      rw [List.filterMap_cons_some e, List.nodup_cons]
      refine ⟨fun z => ?_, ih⟩
      obtain ⟨b, hb, eb⟩ := List.mem_filterMap.mp z
      exact h'.1 (hi a List.mem_cons_self b (List.mem_cons_of_mem _ hb) x e eb ▸ hb)
def ltS (a b : Str) : Prop := leS a b = true ∧ a ≠ b
theorem ltS.trans {a b c : Str} (h1 : ltS a b) (h2 : ltS b c) : ltS a c :=
  ⟨leS_trans _ _ _ h1.1 h2.1, fun e => h1.2 (leS_anti h1.1 (e ▸ h2.1))⟩
theorem ltS.ne {a b : Str} (h : ltS a b) : a ≠ b := h.2
theorem ltS.asym {a b : Str} (h1 : ltS a b) (h2 : ltS b a) : False := h1.2 (leS_anti h1.1 h2.1)
theorem asc_nodup {l : List Str} (h : l.Pairwise ltS) : l.Nodup := List.Pairwise.imp (fun h => h.2) h
theorem srt_asc {l : List Str} (h : l.Nodup) : (srt l).Pairwise ltS := by
  have h1 := srt_pw l
  have h2 : (srt l).Nodup := (srt_perm l).nodup_iff.mpr h
  exact List.Pairwise.imp₂ (fun _ _ a b => ⟨a, b⟩) h1 h2
theorem asc_srt {l : List Str} (h : l.Pairwise ltS) : srt l = l := srt_uniq (srt_pw l) (List.Pairwise.imp (fun h => h.1) h) (srt_perm l)
def hdLt (a b : List Str) : Prop := ∀ x xs y ys, a = x :: xs → b = y :: ys → ltS x y
/-- a partition of names into lines, in order -/
structure Part (fit : List Str → Bool) (ns : List Str) (way : List (List Str)) : Prop where
  perm : way.flatten.Perm ns
  ne : ∀ ws ∈ way, ws ≠ []
  asc : ∀ ws ∈ way, ws.Pairwise ltS
  fits : ∀ ws ∈ way, fit ws = true
  head : way.Pairwise hdLt
section
variable {fit : List Str → Bool}
def putI (fit : List Str → Bool) (z : Str) (way : List (List Str)) (i : Nat) : Option (List (List Str)) := if fit (way.getD i [] ++ [z]) then some (way.set i (way.getD i [] ++ [z])) else none
def withC (fit : List Str → Bool) (z : Str) (way : List (List Str)) : List (List (List Str)) := (List.range way.length).filterMap (putI fit z way) ++ (if fit [z] then [way ++ [[z]]] else [])
def waysF (fit : List Str → Bool) (ns : List Str) : List (List (List Str)) := ns.foldl (fun ways z => ways.flatMap (withC fit z)) [[]]
theorem ways_snoc (ns : List Str) (z : Str) : waysF fit (ns ++ [z]) = (waysF fit ns).flatMap (withC fit z) := by
  unfold waysF
  rw [List.foldl_append]
  rfl
theorem mem_withC {z : Str} {way way' : List (List Str)} : way' ∈ withC fit z way ↔ (∃ i l, way[i]? = some l ∧ fit (l ++ [z]) = true ∧ way' = way.set i (l ++ [z])) ∨ (fit [z] = true ∧ way' = way ++ [[z]]) := by
  unfold withC
  rw [List.mem_append]
  refine or_congr ⟨fun h => ?_, fun h => ?_⟩ ?_
  · obtain ⟨i, hi, e⟩ := List.mem_filterMap.mp h
    have hl := List.mem_range.mp hi
    unfold putI at e
    have eg : way.getD i [] = way[i] := by rw [List.getD_eq_getElem?_getD, List.getElem?_eq_getElem hl]; rfl
    rw [eg] at e
    by_cases hf : fit (way[i] ++ [z]) = true
    · rw [if_pos hf] at e
      exact ⟨i, way[i], List.getElem?_eq_getElem hl, hf, (Option.some.inj e).symm⟩
    · rw [if_neg hf] at e
      cases e
  · obtain ⟨i, l, hl, hf, rfl⟩ := h
    refine List.mem_filterMap.mpr ⟨i, List.mem_range.mpr (List.getElem?_eq_some_iff.mp hl).1, ?_⟩
    unfold putI
    rw [List.getD_eq_getElem?_getD, hl]
    exact if_pos hf
  · by_cases hf : fit [z] = true
    · rw [if_pos hf, List.mem_singleton]
      exact ⟨fun e => ⟨hf, e⟩, fun e => e.2⟩
    · rw [if_neg hf]
      exact ⟨(fun h => nomatch h), fun h => absurd h.1 hf⟩
theorem set_flat2 {z : Str} : ∀ {way : List (List Str)} {i : Nat} {l : List Str}, way[i]? = some l → (way.set i (l ++ [z])).flatten.Perm (way.flatten ++ [z])
  | [], _, _, h => by simp at h
  | a :: w, 0, l, h => by
    obtain rfl : a = l := by simpa using h
    show ((a ++ [z]) ++ w.flatten).Perm (a ++ w.flatten ++ [z])
    rw [List.append_assoc, List.append_assoc]
    exact (List.perm_append_comm (l₁ := [z]) (l₂ := w.flatten)).append_left a
  | a :: w, i + 1, l, h => by
    have := set_flat2 (z := z) (way := w) (i := i) (l := l) (by simpa using h)
    show (a ++ (w.set i (l ++ [z])).flatten).Perm (a ++ w.flatten ++ [z])
    rw [List.append_assoc]
    exact this.append_left a
theorem pw_set {R : List Str → List Str → Prop} {x : List Str} : ∀ {way : List (List Str)} {i : Nat} {l : List Str}, way[i]? = some l → way.Pairwise R → (∀ a, R a l → R a x) → (∀ b, R l b → R x b) → (way.set i x).Pairwise R
  | [], _, _, h, _, _, _ => by simp at h
  | a :: w, 0, l, h, hp, _, h2 => by
    obtain rfl : a = l := by simpa using h
    rw [List.pairwise_cons] at hp
    show (x :: w).Pairwise R
    exact List.pairwise_cons.mpr ⟨fun b hb => h2 b (hp.1 b hb), hp.2⟩
  | a :: w, i + 1, l, h, hp, h1, h2 => by
    rw [List.pairwise_cons] at hp
    have hw : w[i]? = some l := by simpa using h
    show (a :: w.set i x).Pairwise R
    refine List.pairwise_cons.mpr ⟨fun b hb => ?_, pw_set hw hp.2 h1 h2⟩
    rcases List.mem_or_eq_of_mem_set hb with hb | rfl
    · exact hp.1 b hb
    · exact h1 a (hp.1 l (List.mem_of_getElem? hw))
theorem head_app {l t : List Str} (h : l ≠ []) : ∃ x xs, l = x :: xs ∧ ∃ ys, l ++ t = x :: ys := by
  cases l with
  | nil => exact absurd rfl h
  | cons x xs => exact ⟨x, xs, rfl, xs ++ t, rfl⟩
theorem part_more {ns : List Str} {z : Str} {way way' : List (List Str)} (p : Part fit ns way) (hz : ∀ y ∈ ns, ltS y z) (h : way' ∈ withC fit z way) : Part fit (ns ++ [z]) way' := by
  have inn : ∀ ws ∈ way, ∀ y ∈ ws, y ∈ ns := fun ws hw y hy => p.perm.mem_iff.mp (List.mem_flatten.mpr ⟨ws, hw, hy⟩)
  rcases mem_withC.mp h with ⟨i, l, hl, hf, rfl⟩ | ⟨hf, rfl⟩
  · have hm := List.mem_of_getElem? hl
    have asc : (l ++ [z]).Pairwise ltS := List.pairwise_append.mpr ⟨p.asc l hm, List.pairwise_singleton _ _, fun a ha b hb => by rw [List.mem_singleton.mp hb]; exact hz a (inn l hm a ha)⟩
    refine ⟨(set_flat2 hl).trans (p.perm.append_right _), fun ws hw => ?_, fun ws hw => ?_, fun ws hw => ?_, pw_set hl p.head ?_ ?_⟩
    · rcases List.mem_or_eq_of_mem_set hw with hw | rfl
      · exact p.ne ws hw
      · simp
    · rcases List.mem_or_eq_of_mem_set hw with hw | rfl
      · exact p.asc ws hw
      · exact asc
    · rcases List.mem_or_eq_of_mem_set hw with hw | rfl
      · exact p.fits ws hw
      · exact hf
    · intro a ha x xs y ys ea eb
      obtain ⟨y2, ys2, e2, ys3, e3⟩ := head_app (t := [z]) (p.ne l hm)
      rw [e3] at eb
      injection eb with eb _
      exact eb ▸ ha x xs y2 ys2 ea e2
    · intro b hb x xs y ys ea eb
      obtain ⟨y2, ys2, e2, ys3, e3⟩ := head_app (t := [z]) (p.ne l hm)
      rw [e3] at ea
      injection ea with ea _
      exact ea ▸ hb y2 ys2 y ys e2 eb
  · refine ⟨?_, fun ws hw => ?_, fun ws hw => ?_, fun ws hw => ?_, List.pairwise_append.mpr ⟨p.head, List.pairwise_singleton _ _, fun a ha b hb x xs y ys ea eb => ?_⟩⟩
    · rw [List.flatten_append]
      exact p.perm.append_right _
    · rcases List.mem_append.mp hw with hw | hw
      · exact p.ne ws hw
      · rw [List.mem_singleton.mp hw]; simp
    · rcases List.mem_append.mp hw with hw | hw
      · exact p.asc ws hw
      · rw [List.mem_singleton.mp hw]; exact List.pairwise_singleton _ _
    · rcases List.mem_append.mp hw with hw | hw
      · exact p.fits ws hw
      · rw [List.mem_singleton.mp hw]; exact hf
    · rw [List.mem_singleton.mp hb] at eb
      injection eb with eb _
      exact eb ▸ hz x (inn a ha x (ea ▸ List.mem_cons_self))
theorem set_back {z : Str} {a : List Str} : ∀ {way : List (List Str)} {i : Nat}, way[i]? = some (a ++ [z]) → (way.set i a).flatten.Perm (way.flatten.erase z) ∨ z ∉ way.flatten
  | way, i, h => by
    have h2 : (way.set i a)[i]? = some a := by
      rw [List.getElem?_set_self (List.getElem?_eq_some_iff.mp h).1]
    have := set_flat2 (z := z) h2
    rw [List.set_set] at this
    have e : way.set i (a ++ [z]) = way := by
      refine List.ext_getElem? fun k => ?_
      by_cases hk : k = i
      · subst hk
        rw [List.getElem?_set_self (List.getElem?_eq_some_iff.mp h).1, h]
      · rw [List.getElem?_set_ne (Ne.symm hk)]
    rw [e] at this
    have q := (this.erase z)
    refine .inl ?_
    have h3 : ((way.set i a).flatten ++ [z]).Perm (z :: (way.set i a).flatten) := List.perm_append_comm (l₂ := [z])
    have h4 := (this.trans h3).erase z
    rw [List.erase_cons_head] at h4
    exact h4.symm
theorem part_less {ns : List Str} {z : Str} {way' : List (List Str)} (mono : ∀ a z, fit (a ++ [z]) = true → fit a = true) (hns : ns.Pairwise ltS) (hz : ∀ y ∈ ns, ltS y z) (p : Part fit (ns ++ [z]) way') : ∃ way, Part fit ns way ∧ way' ∈ withC fit z way := by
  have zn : z ∉ ns := fun h => (hz z h).2 rfl
  have nd : (ns ++ [z]).Nodup := asc_nodup (List.pairwise_append.mpr ⟨hns, List.pairwise_singleton _ _, fun a ha b hb => by rw [List.mem_singleton.mp hb]; exact hz a ha⟩)
  have ndf : way'.flatten.Nodup := p.perm.nodup_iff.mpr nd
  obtain ⟨l, hl, hzl⟩ := List.mem_flatten.mp (p.perm.mem_iff.mpr (List.mem_append.mpr (.inr List.mem_cons_self)) : z ∈ way'.flatten)
  obtain ⟨i, hi⟩ := List.mem_iff_getElem?.mp hl
  have inn : ∀ ws ∈ way', ∀ y ∈ ws, y = z ∨ y ∈ ns := fun ws hw y hy => by
    rcases List.mem_append.mp (p.perm.mem_iff.mp (List.mem_flatten.mpr ⟨ws, hw, hy⟩)) with h | h
    · exact .inr h
    · exact .inl (List.mem_singleton.mp h)
  have ermv : (way'.flatten.erase z).Perm ns := by
    have h := p.perm.erase z
    rw [List.erase_append_right _ zn, List.erase_cons_head, List.append_nil] at h
    exact h
  obtain ⟨a, b, hab⟩ := List.append_of_mem hzl
  have al := p.asc l hl
  have hb : b = [] := by
    cases b with
    | nil => rfl
    | cons y b =>
      rw [hab] at al
      have h1 : ltS z y := (List.pairwise_cons.mp (List.pairwise_append.mp al).2.1).1 y List.mem_cons_self
      rcases inn l hl y (by rw [hab]; simp) with e | e
      · exact absurd e.symm h1.2
      · exact (h1.asym (hz y e)).elim
  subst hb
  cases a with
  | nil =>
    -- its own line, the last one
    have e1 : l = [z] := hab
    subst e1
    have hlast : i + 1 = way'.length := by
      have hlt := (List.getElem?_eq_some_iff.mp hi).1
      by_cases h : i + 1 < way'.length
      · have hm : way'[i + 1] ∈ way' := List.getElem_mem h
        have hd := List.pairwise_iff_getElem.mp p.head i (i + 1) hlt h (Nat.lt_succ_self i)
        have ei : way'[i] = [z] := (List.getElem?_eq_some_iff.mp hi).2
        cases e : way'[i + 1] with
        | nil => exact absurd e (p.ne _ hm)
        | cons y ys =>
          have h1 := hd z [] y ys ei e
          rcases inn _ hm y (by rw [e]; exact List.mem_cons_self) with q | q
          · exact absurd q.symm h1.2
          · exact (h1.asym (hz y q)).elim
      · omega
    have ew : way' = way'.take i ++ [[z]] := by
      conv => lhs; rw [← List.take_append_drop i way']
      congr 1
      have hlt := (List.getElem?_eq_some_iff.mp hi).1
      rw [List.drop_eq_getElem_cons hlt, List.drop_eq_nil_of_le (by omega), (List.getElem?_eq_some_iff.mp hi).2]
    have hsub : ∀ ws ∈ way'.take i, ws ∈ way' := fun ws hw => List.mem_of_mem_take hw
    refine ⟨way'.take i, ⟨?_, fun ws hw => p.ne ws (hsub ws hw), fun ws hw => p.asc ws (hsub ws hw), fun ws hw => p.fits ws (hsub ws hw), p.head.sublist (List.take_sublist i way')⟩, mem_withC.mpr (.inr ⟨p.fits [z] hl, ew⟩)⟩
    have h := ermv
    rw [ew, List.flatten_append] at h
    have zt : z ∉ (way'.take i).flatten := fun q => by
      rw [ew, List.flatten_append, List.nodup_append] at ndf
      exact ndf.2.2 z q z (by simp) rfl
    rw [List.erase_append_right _ zt] at h
    simpa using h
  | cons c a =>
    have hf := p.fits l hl
    rw [hab] at hi hf al
    have hlt := (List.getElem?_eq_some_iff.mp hi).1
    have back : way' = (way'.set i (c :: a)).set i ((c :: a) ++ [z]) := by
      rw [List.set_set]
      refine List.ext_getElem? fun k => ?_
      by_cases hk : k = i
      · subst hk
        rw [List.getElem?_set_self hlt, hi]
      · rw [List.getElem?_set_ne (Ne.symm hk)]
    refine ⟨way'.set i (c :: a), ⟨?_, fun ws hw => ?_, fun ws hw => ?_, fun ws hw => ?_, pw_set hi p.head ?_ ?_⟩, mem_withC.mpr (.inl ⟨i, c :: a, List.getElem?_set_self hlt, hf, back⟩)⟩
    · rcases set_back hi with h | h
      · exact h.trans ermv
      · exact absurd (List.mem_flatten.mpr ⟨l, hl, hzl⟩) h
    · rcases List.mem_or_eq_of_mem_set hw with hw | rfl
      · exact p.ne ws hw
      · simp
    · rcases List.mem_or_eq_of_mem_set hw with hw | rfl
      · exact p.asc ws hw
      · exact (List.pairwise_append.mp al).1
    · rcases List.mem_or_eq_of_mem_set hw with hw | rfl
      · exact p.fits ws hw
      · exact mono _ _ hf
    · intro b hb x xs y ys ea eb
      injection eb with e _
      exact e ▸ hb x xs c (a ++ [z]) ea rfl
    · intro b hb x xs y ys ea eb
      injection ea with e _
      exact e ▸ hb c (a ++ [z]) y ys rfl eb
/-- what a way was, ahead of the cell z -/
def delC (z : Str) (way : List (List Str)) : List (List Str) := (way.map fun ws => ws.filter fun y => decide (y ≠ z)).filter fun ws => decide (ws ≠ [])
theorem no_filter {z : Str} {ws : List Str} (h : z ∉ ws) : (ws.filter fun y => decide (y ≠ z)) = ws := List.filter_eq_self.mpr fun y hy => decide_eq_true fun e : y = z => h (e ▸ hy)
theorem map_no {z : Str} {way : List (List Str)} (h : ∀ ws ∈ way, z ∉ ws) : (way.map fun ws => ws.filter fun y => decide (y ≠ z)) = way := by
  conv => rhs; rw [← List.map_id way]
  exact List.map_congr_left fun ws hw => no_filter (h ws hw)
theorem del_with {z : Str} {way way' : List (List Str)} (hn : ∀ ws ∈ way, z ∉ ws) (ne : ∀ ws ∈ way, ws ≠ []) (h : way' ∈ withC fit z way) : delC z way' = way := by
  have keep : (way.filter fun ws => decide (ws ≠ [])) = way := List.filter_eq_self.mpr fun ws hw => decide_eq_true (ne ws hw)
  rcases mem_withC.mp h with ⟨i, l, hl, hf, rfl⟩ | ⟨hf, rfl⟩
  · unfold delC
    have hm := List.mem_of_getElem? hl
    rw [List.map_set, map_no hn, List.filter_append, no_filter (hn l hm)]
    have : ([z].filter fun y => decide (y ≠ z)) = [] := by simp
    rw [this, List.append_nil]
    have e : way.set i l = way := by
      refine List.ext_getElem? fun k => ?_
      by_cases hk : k = i
      · subst hk
        rw [List.getElem?_set_self (List.getElem?_eq_some_iff.mp hl).1, hl]
      · rw [List.getElem?_set_ne (Ne.symm hk)]
    rw [e, keep]
  · unfold delC
    rw [List.map_append, map_no hn]
    have : ([[z]].map fun ws : List Str => ws.filter fun y => decide (y ≠ z)) = [[]] := by simp
    rw [this, List.filter_append, keep]
    simp
theorem nodup_withC {z : Str} {way : List (List Str)} (hn : ∀ ws ∈ way, z ∉ ws) : (withC fit z way).Nodup := by
  unfold withC
  have lens : ∀ i x, putI fit z way i = some x → x.length = way.length := fun i x e => by
    unfold putI at e
    split at e
    · rw [← Option.some.inj e, List.length_set]
    · cases e
  rw [List.nodup_append]
  refine ⟨nodup_fm _ List.nodup_range fun i hi j hj x e1 e2 => ?_, by split <;> simp, fun x hx y hy e => ?_⟩
  · have li := List.mem_range.mp hi
    have lj := List.mem_range.mp hj
    by_cases hij : i = j
    · exact hij
    · unfold putI at e1 e2
      split at e1
      case isFalse => cases e1
      split at e2
      case isFalse => cases e2
      have e := (Option.some.inj e1).trans (Option.some.inj e2).symm
      have e3 := congrArg (fun l => l[i]?) e
      rw [List.getElem?_set_self li, List.getElem?_set_ne (Ne.symm hij), List.getElem?_eq_getElem li, List.getD_eq_getElem?_getD, List.getElem?_eq_getElem li] at e3
      have e4 := congrArg List.length (Option.some.inj e3)
      simp at e4
  · subst e
    obtain ⟨i, _, e1⟩ := List.mem_filterMap.mp hx
    have h1 := lens i x e1
    split at hy
    · rw [List.mem_singleton.mp hy, List.length_append] at h1
      simp at h1
    · cases hy
theorem ways_all (mono : ∀ a z, fit (a ++ [z]) = true → fit a = true) : ∀ (n : Nat) (ns : List Str), ns.length = n → ns.Pairwise ltS → (waysF fit ns).Nodup ∧ ∀ way, way ∈ waysF fit ns ↔ Part fit ns way
  | 0, ns, hl, _ => by
    obtain rfl := List.length_eq_zero_iff.mp hl
    refine ⟨by simp [waysF], fun way => ⟨fun h => ?_, fun p => ?_⟩⟩
    · obtain rfl : way = [] := List.mem_singleton.mp h
      exact ⟨List.Perm.nil, (fun _ h => nomatch h), (fun _ h => nomatch h), (fun _ h => nomatch h), List.Pairwise.nil⟩
    · have : way = [] := by
        cases way with
        | nil => rfl
        | cons a w =>
          have e := p.perm.length_eq
          have := List.length_pos_iff.mpr (p.ne a List.mem_cons_self)
          rw [List.flatten_cons, List.length_append] at e
          have e : a.length + w.flatten.length = 0 := e
          omega
      rw [this]
      exact List.mem_cons_self
  | n + 1, ns, hl, ha => by
    obtain ⟨ms, z, rfl⟩ : ∃ ms z, ns = ms ++ [z] := by
      have hne : ns ≠ [] := fun e => by rw [e] at hl; cases hl
      exact ⟨ns.dropLast, ns.getLast hne, (List.dropLast_concat_getLast hne).symm⟩
    rw [List.length_append, List.length_singleton] at hl
    obtain ⟨hm, _, hz⟩ := List.pairwise_append.mp ha
    have hz' : ∀ y ∈ ms, ltS y z := fun y hy => hz y hy z List.mem_cons_self
    obtain ⟨nd, mem⟩ := ways_all mono n ms (by omega) hm
    have out : ∀ way, Part fit ms way → ∀ ws ∈ way, z ∉ ws := fun way p ws hw hzw => (hz' z (p.perm.mem_iff.mp (List.mem_flatten.mpr ⟨ws, hw, hzw⟩))).2 rfl
    rw [ways_snoc]
    refine ⟨nodup_bind nd (fun way hw => nodup_withC (out way ((mem way).mp hw))) fun w1 h1 w2 h2 x x1 x2 => ?_, fun way' => ⟨fun h => ?_, fun p => ?_⟩⟩
    · have p1 := (mem w1).mp h1
      have p2 := (mem w2).mp h2
      rw [← del_with (out w1 p1) p1.ne x1, del_with (out w2 p2) p2.ne x2]
    · obtain ⟨way, hw, hx⟩ := List.mem_flatMap.mp h
      exact part_more ((mem way).mp hw) hz' hx
    · obtain ⟨way, pw, hx⟩ := part_less mono hm hz' p
      exact List.mem_flatMap.mpr ⟨way, (mem way).mpr pw, hx⟩
end
end Vf

set_option maxRecDepth 100000
set_option maxHeartbeats 4000000
namespace Vf
open PySem PySem.Spec PyProof.Rows L2
def subs (ns : List Str) : List (List Str) := ns.foldl (fun some z => some ++ some.map fun one => one ++ [z]) [[]]
theorem subs_snoc (ns : List Str) (z : Str) : subs (ns ++ [z]) = subs ns ++ (subs ns).map fun one => one ++ [z] := by
  unfold subs
  rw [List.foldl_append]
  rfl
theorem subs_all : ∀ (n : Nat) (ns : List Str), ns.length = n → (ns.Nodup → (subs ns).Nodup) ∧ ∀ one, one ∈ subs ns ↔ one.Sublist ns
  | 0, ns, hl => by
    obtain rfl := List.length_eq_zero_iff.mp hl
    exact ⟨fun _ => by simp [subs], fun one => by simp [subs]⟩
  | n + 1, ns, hl => by
    obtain ⟨ms, z, rfl⟩ : ∃ ms z, ns = ms ++ [z] := by
      have hne : ns ≠ [] := fun e => by rw [e] at hl; cases hl
      exact ⟨ns.dropLast, ns.getLast hne, (List.dropLast_concat_getLast hne).symm⟩
    rw [List.length_append, List.length_singleton] at hl
    obtain ⟨nd, mem⟩ := subs_all n ms (by omega)
    rw [subs_snoc]
    refine ⟨fun h => ?_, fun one => ?_⟩
    · rw [List.nodup_append] at h
      rw [List.nodup_append]
      refine ⟨nd h.1, nodup_mapOn _ (nd h.1) (fun a _ b _ e => by simpa using e), fun a ha b hb e => ?_⟩
      obtain ⟨c, _, rfl⟩ := List.mem_map.mp hb
      have hz : z ∈ ms := ((mem a).mp ha).subset (by rw [e]; simp)
      exact h.2.2 z hz z List.mem_cons_self rfl
    · rw [List.mem_append, mem, List.sublist_append_iff]
      constructor
      · rintro (h | h)
        · exact ⟨one, [], (List.append_nil one).symm, h, List.nil_sublist _⟩
        · obtain ⟨c, hc, rfl⟩ := List.mem_map.mp h
          exact ⟨c, [z], rfl, (mem c).mp hc, List.Sublist.refl _⟩
      · rintro ⟨a, b, rfl, ha, hb⟩
        cases b with
        | nil => rw [List.append_nil]; exact .inl ha
        | cons y b =>
          have h1 : b = [] := by
            have := hb.length_le
            simp at this
            exact this
          subst h1
          have h2 : y = z := by
            have := hb.subset (List.mem_cons_self (a := y))
            exact List.mem_singleton.mp this
          subst h2
          exact .inr (List.mem_map.mpr ⟨a, (mem a).mpr ha, rfl⟩)
theorem subs_len (ns : List Str) : (subs ns).length = 2 ^ ns.length := by
  have : ∀ (n : Nat) (ns : List Str), ns.length = n → (subs ns).length = 2 ^ ns.length := fun n => by
    induction n with
    | zero =>
      intro ns hl
      obtain rfl := List.length_eq_zero_iff.mp hl
      rfl
    | succ n ih =>
      intro ns hl
      obtain ⟨ms, z, rfl⟩ : ∃ ms z, ns = ms ++ [z] := by
        have hne : ns ≠ [] := fun e => by rw [e] at hl; cases hl
        exact ⟨ns.dropLast, ns.getLast hne, (List.dropLast_concat_getLast hne).symm⟩
      rw [List.length_append, List.length_singleton] at hl
      rw [subs_snoc, List.length_append, List.length_map, ih ms (by omega), List.length_append, List.length_singleton, Nat.pow_succ]
      omega
  exact this _ ns rfl
section
variable {fit : List Str → Bool}
def rem (rest line : List Str) : List Str := rest.filter fun y => decide (y ∉ line)
/-- all ways to put what is left into lines: first the line of its first name -/
def everyF (fit : List Str → Bool) : Nat → List Str → List (List (List Str))
  | 0, _ => []
  | _ + 1, [] => [[]]
  | n + 1, a :: rest => (subs rest).flatMap fun one => if fit (a :: one) then (everyF fit n (rem (a :: rest) (a :: one))).map fun w => (a :: one) :: w else []
theorem rem_sub (rest line : List Str) : (rem rest line).Sublist rest := List.filter_sublist
theorem rem_len {a : Str} {rest one : List Str} : (rem (a :: rest) (a :: one)).length ≤ rest.length := by
  unfold rem
  rw [List.filter_cons_of_neg (by simp)]
  exact List.length_filter_le _ _
theorem rem_perm {a : Str} {rest one : List Str} (nd : (a :: rest).Nodup) (h : one.Sublist rest) : ((a :: one) ++ rem (a :: rest) (a :: one)).Perm (a :: rest) := by
  have nd1 : (a :: one).Nodup := nd.sublist (h.cons_cons a)
  refine (List.perm_ext_iff_of_nodup ?_ nd).mpr fun y => ?_
  · rw [List.nodup_append]
    refine ⟨nd1, nd.sublist (rem_sub _ _), fun x hx y hy e => ?_⟩
    have := of_decide_eq_true (List.mem_filter.mp hy).2
    exact this (e ▸ hx)
  · rw [List.mem_append]
    constructor
    · rintro (h1 | h1)
      · exact (h.cons_cons a).subset h1
      · exact (rem_sub _ _).subset h1
    · intro h1
      by_cases h2 : y ∈ a :: one
      · exact .inl h2
      · exact .inr (List.mem_filter.mpr ⟨h1, decide_eq_true h2⟩)
theorem asc_sub_of {l ns : List Str} (hl : l.Pairwise ltS) (hn : ns.Pairwise ltS) (h : ∀ y ∈ l, y ∈ ns) : l.Sublist ns := by
  induction ns generalizing l with
  | nil =>
    cases l with
    | nil => exact .slnil
    | cons a l => exact absurd (h a List.mem_cons_self) (by simp)
  | cons b ns ih =>
    cases l with
    | nil => exact List.nil_sublist _
    | cons a l =>
      obtain ⟨hb, hn'⟩ := List.pairwise_cons.mp hn
      obtain ⟨ha, hl'⟩ := List.pairwise_cons.mp hl
      by_cases e : a = b
      · subst e
        refine (ih hl' hn' fun y hy => ?_).cons_cons a
        rcases List.mem_cons.mp (h y (List.mem_cons_of_mem _ hy)) with q | q
        · exact absurd q.symm (ha y hy).2
        · exact q
      · refine (ih hl hn' fun y hy => ?_).cons b
        rcases List.mem_cons.mp (h y hy) with q | q
        · subst q
          rcases List.mem_cons.mp hy with q2 | q2
          · exact absurd q2.symm e
          · rcases List.mem_cons.mp (h a List.mem_cons_self) with q3 | q3
            · exact absurd q3 e
            · exact ((ha y q2).asym (hb a q3)).elim
        · exact q
theorem every_all : ∀ (n : Nat) (ns : List Str), ns.length < n → ns.Pairwise ltS → (everyF fit n ns).Nodup ∧ ∀ way, way ∈ everyF fit n ns ↔ Part fit ns way
  | 0, _, h, _ => absurd h (Nat.not_lt_zero _)
  | n + 1, [], _, _ => by
    refine ⟨by simp [everyF], fun way => ⟨fun h => ?_, fun p => ?_⟩⟩
    · obtain rfl : way = [] := List.mem_singleton.mp h
      exact ⟨List.Perm.nil, (fun _ h => nomatch h), (fun _ h => nomatch h), (fun _ h => nomatch h), List.Pairwise.nil⟩
    · have : way = [] := by
        cases way with
        | nil => rfl
        | cons a w =>
          have e := p.perm.length_eq
          have := List.length_pos_iff.mpr (p.ne a List.mem_cons_self)
          rw [List.flatten_cons, List.length_append] at e
          have e : a.length + w.flatten.length = 0 := e
          omega
      rw [this]
      exact List.mem_cons_self
  | n + 1, a :: rest, hl, ha => by
    have nd := asc_nodup ha
    obtain ⟨ha1, ha2⟩ := List.pairwise_cons.mp ha
    obtain ⟨sn, sm⟩ := subs_all _ rest rfl
    have ndr : rest.Nodup := (List.nodup_cons.mp nd).2
    rw [List.length_cons] at hl
    have ih := fun one : List Str => every_all n (rem (a :: rest) (a :: one)) (Nat.lt_of_le_of_lt rem_len (by omega)) (ha.sublist (rem_sub _ _))
    refine ⟨nodup_bind (sn ndr) (fun one h1 => ?_) (fun o1 h1 o2 h2 x x1 x2 => ?_), fun way => ⟨fun h => ?_, fun p => ?_⟩⟩
    · split
      · exact nodup_mapOn _ (ih one).1 fun x _ y _ e => (List.cons.inj e).2
      · exact List.nodup_nil
    · split at x1
      case isFalse => cases x1
      split at x2
      case isFalse => cases x2
      obtain ⟨w1, _, rfl⟩ := List.mem_map.mp x1
      obtain ⟨w2, _, e⟩ := List.mem_map.mp x2
      exact (List.cons.inj (List.cons.inj e).1).2.symm
    · obtain ⟨one, h1, h2⟩ := List.mem_flatMap.mp h
      split at h2
      case isFalse => cases h2
      rename_i hf
      obtain ⟨w, hw, rfl⟩ := List.mem_map.mp h2
      have p := ((ih one).2 w).mp hw
      have hs := (sm one).mp h1
      refine ⟨?_, fun ws hws => ?_, fun ws hws => ?_, fun ws hws => ?_, List.pairwise_cons.mpr ⟨fun b hb x xs y ys ea eb => ?_, p.head⟩⟩
      · rw [List.flatten_cons]
        exact (p.perm.append_left (a :: one)).trans (rem_perm nd hs)
      · rcases List.mem_cons.mp hws with rfl | hws
        · simp
        · exact p.ne ws hws
      · rcases List.mem_cons.mp hws with rfl | hws
        · exact ha.sublist (hs.cons_cons a)
        · exact p.asc ws hws
      · rcases List.mem_cons.mp hws with rfl | hws
        · exact hf
        · exact p.fits ws hws
      · injection ea with ea _
        subst ea
        have hy : y ∈ rem (a :: rest) (a :: one) := p.perm.mem_iff.mp (List.mem_flatten.mpr ⟨b, hb, eb ▸ List.mem_cons_self⟩)
        have h3 := (rem_sub _ _).subset hy
        rcases List.mem_cons.mp h3 with e | e
        · exact absurd (of_decide_eq_true (List.mem_filter.mp hy).2) (fun q => q (e ▸ List.mem_cons_self))
        · exact ha1 y e
    · -- the first line begins with a
      have inn : ∀ ws ∈ way, ∀ y ∈ ws, y ∈ a :: rest := fun ws hw y hy => p.perm.mem_iff.mp (List.mem_flatten.mpr ⟨ws, hw, hy⟩)
      obtain ⟨l, hl2, hal⟩ := List.mem_flatten.mp (p.perm.mem_iff.mpr List.mem_cons_self : a ∈ way.flatten)
      cases way with
      | nil => cases hl2
      | cons l0 w =>
        have hd0 : ∃ one, l0 = a :: one := by
          cases e0 : l0 with
          | nil => exact absurd e0 (p.ne l0 List.mem_cons_self)
          | cons y ys =>
            rcases List.mem_cons.mp (inn l0 List.mem_cons_self y (e0 ▸ List.mem_cons_self)) with q | q
            · exact ⟨ys, by rw [q]⟩
            · have hay : ltS a y := ha1 y q
              -- a is in l, which is l0 or behind it
              rcases List.mem_cons.mp hl2 with e | e
              · rw [e, e0] at hal
                have as := p.asc l0 List.mem_cons_self
                rw [e0] at as
                rcases List.mem_cons.mp hal with q2 | q2
                · exact absurd q2 hay.2
                · exact ((List.pairwise_cons.mp as).1 a q2 |>.asym hay).elim
              · cases e1 : l with
                | nil => rw [e1] at hal; cases hal
                | cons x xs =>
                  have hyx := (List.pairwise_cons.mp p.head).1 l e y ys x xs e0 e1
                  have as := p.asc l (List.mem_cons_of_mem _ e)
                  rw [e1] at as hal
                  rcases List.mem_cons.mp hal with q2 | q2
                  · subst q2
                    exact (hyx.asym hay).elim
                  · exact ((hyx.trans ((List.pairwise_cons.mp as).1 a q2)).asym hay).elim
        obtain ⟨one, rfl⟩ := hd0
        have as := p.asc (a :: one) List.mem_cons_self
        have hs : one.Sublist rest := by
          refine asc_sub_of (List.pairwise_cons.mp as).2 ha2 fun y hy => ?_
          rcases List.mem_cons.mp (inn (a :: one) List.mem_cons_self y (List.mem_cons_of_mem _ hy)) with q | q
          · exact absurd q.symm ((List.pairwise_cons.mp as).1 y hy).2
          · exact q
        refine List.mem_flatMap.mpr ⟨one, (sm one).mpr hs, ?_⟩
        rw [if_pos (p.fits (a :: one) List.mem_cons_self)]
        refine List.mem_map.mpr ⟨w, ((ih one).2 w).mpr ⟨?_, fun ws hw => p.ne ws (List.mem_cons_of_mem _ hw), fun ws hw => p.asc ws (List.mem_cons_of_mem _ hw), fun ws hw => p.fits ws (List.mem_cons_of_mem _ hw), (List.pairwise_cons.mp p.head).2⟩, rfl⟩
        have h1 := p.perm
        rw [List.flatten_cons] at h1
        exact (List.perm_append_left_iff (a :: one)).mp (h1.trans (rem_perm nd hs).symm)
theorem ways_every (mono : ∀ a z, fit (a ++ [z]) = true → fit a = true) {ns : List Str} (h : ns.Pairwise ltS) {n : Nat} (hn : ns.length < n) : (waysF fit ns).Perm (everyF fit n ns) := by
  obtain ⟨n1, m1⟩ := ways_all mono _ ns rfl h
  obtain ⟨n2, m2⟩ := every_all (fit := fit) n ns hn h
  exact (List.perm_ext_iff_of_nodup n1 n2).mpr fun w => (m1 w).trans (m2 w).symm
theorem leL_heads {x y : Str} {xs ys : List Str} (h : ltS x y) : leL (x :: xs) (y :: ys) = true := by
  have e : ∀ (z : Str) (zs : List Str), PySem.W.keyToks (lnD (z :: zs)) = .inl 1 :: .inr z.cps.toList :: PySem.W.keyToksAll (zs.map PyData.str) := fun z zs => by
    unfold lnD
    simp [PySem.W.keyToks, PySem.W.keyToksAll]
  show (!(listOrd itemOrd).blt (PySem.W.keyToks (lnD (y :: ys))) (PySem.W.keyToks (lnD (x :: xs)))) = true
  rw [e, e, Bool.not_eq_true']
  have n1 : ¬ y.cps.toList < x.cps.toList := leS_iff.mp h.1
  have n2 : x.cps.toList < y.cps.toList := by
    rcases Decidable.em (x.cps.toList < y.cps.toList) with q | q
    · exact q
    · exact absurd (str_eq (List.le_antisymm n1 q)) h.2
  have t2 : PyProof.Rows.lexLt itemOrd (.inr y.cps.toList :: PySem.W.keyToksAll (ys.map PyData.str)) (.inr x.cps.toList :: PySem.W.keyToksAll (xs.map PyData.str)) = false :=
    lex_false.mpr ⟨(decide_eq_false n1 : decide (y.cps.toList < x.cps.toList) = false), .inl (decide_eq_true n2 : decide (x.cps.toList < y.cps.toList) = true)⟩
  show PyProof.Rows.lexLt itemOrd (.inl 1 :: .inr y.cps.toList :: PySem.W.keyToksAll (ys.map PyData.str)) (.inl 1 :: .inr x.cps.toList :: PySem.W.keyToksAll (xs.map PyData.str)) = false
  rw [lex_self (O := itemOrd)]
  exact t2
theorem part_ord {ns : List Str} {way : List (List Str)} (p : Part fit ns way) : way.map srt = way ∧ sortL way = way := by
  refine ⟨?_, ?_⟩
  · conv => rhs; rw [← List.map_id way]
    exact List.map_congr_left fun ws hw => asc_srt (p.asc ws hw)
  · have h2 : way.Pairwise fun a b => leL a b = true := by
      have : ∀ w : List (List Str), (∀ ws ∈ w, ws ≠ []) → w.Pairwise hdLt → w.Pairwise fun a b => leL a b = true := fun w => by
        induction w with
        | nil => intro _ _; exact .nil
        | cons a w ih =>
          intro ne hp
          obtain ⟨h1, h2⟩ := List.pairwise_cons.mp hp
          refine List.pairwise_cons.mpr ⟨fun b hb => ?_, ih (fun ws hw => ne ws (List.mem_cons_of_mem _ hw)) h2⟩
          cases ea : a with
          | nil => exact absurd ea (ne a List.mem_cons_self)
          | cons x xs =>
            cases eb : b with
            | nil => exact absurd eb (ne b (List.mem_cons_of_mem _ hb))
            | cons y ys => exact leL_heads (h1 b hb x xs y ys ea eb)
      exact this way p.ne p.head
    exact List.Perm.eq_of_pairwise (le := fun a b => leL a b = true) (fun _ _ _ _ h1 h2 => ln_anti h1 h2) (List.pairwise_mergeSort (dle_trans lnD) (dle_total lnD) way) h2 (sortL_perm way)
end
end Vf

set_option maxRecDepth 100000
set_option maxHeartbeats 16000000
namespace Vf
open PySem PySem.Spec PyProof.Rows L2
theorem SqT.same {K : PySem.W.Frag} {H H' : Hp} {a : Addr} {xs : List V} (h : SqT K H a xs) (s : Same H H') : SqT K H' a xs := by
  rcases h with (h | ⟨o, h⟩) | h
  · exact .inl (.inl (s _ _ h))
  · exact .inl (.inr ⟨o, s _ _ h⟩)
  · exact .inr h
theorem catA_any {K : PySem.W.Frag} {H : Hp} {a b : Addr} {xs ys : List V} {Q : VK} (ha : SqT K H a xs) (hb : SqT K H b ys) (fit : xs.length + ys.length ≤ 1000) (h : ∀ p H', Same H H' → SqT K H' p (xs ++ ys) → Q (.ref p) H') : rCatA K (.ref a) (.ref b) H Q := by
  refine ⟨a, b, xs, ys, rfl, rfl, ha, hb, by rw [sizeLine_eq]; omega, fun e => ?_, fun _ e => ?_, fun _ _ p hp => ?_⟩
  · subst e
    exact h b H (Same.refl _) hb
  · subst e
    exact h a H (Same.refl _) (by rw [List.append_nil]; exact ha)
  · exact h p _ (same_new hp) (SqT.of upd_same)
theorem slA_left {K : PySem.W.Frag} {H : Hp} {a : Addr} {xs : List V} {i : Nat} {Q : VK} (ha : SqT K H a xs) (hi : i < xs.length) (h : ∀ p H', Same H H' → SqT K H' p (xs.take i) → Q (.ref p) H') : rSlA K (.ref a) none (some (i : Int)) H Q := by
  refine ⟨a, xs, rfl, ha, fun e => ?_, fun _ p hp => ?_⟩
  · rw [HT.sIx_nat] at e
    omega
  · have e : cutV xs none (some (i : Int)) = xs.take i := by
      unfold cutV
      rw [HT.sIx_none, HT.sIx_nat, List.drop_zero, Nat.sub_zero, Nat.min_eq_left (by omega)]
    rw [e]
    exact h p _ (same_new hp) (SqT.of upd_same)
theorem slA_right {K : PySem.W.Frag} {H : Hp} {a : Addr} {xs : List V} {i : Nat} {Q : VK} (ha : SqT K H a xs) (hi : i < xs.length) (h : ∀ p H', Same H H' → SqT K H' p (xs.drop (i + 1)) → Q (.ref p) H') : rSlA K (.ref a) (some ((i : Int) + 1)) none H Q := by
  have e1 : ((i : Int) + 1) = ((i + 1 : Nat) : Int) := by omega
  rw [e1]
  refine ⟨a, xs, rfl, ha, fun e => ?_, fun _ p hp => ?_⟩
  · rw [HT.sIx_nat] at e
    omega
  · have e : cutV xs (some ((i + 1 : Nat) : Int)) none = xs.drop (i + 1) := by
      unfold cutV
      rw [HT.sIx_none, HT.sIx_nat, Nat.min_eq_left (by omega)]
      exact List.take_of_length_le (by rw [List.length_drop]; omega)
    rw [e]
    exact h p _ (same_new hp) (SqT.of upd_same)
theorem same_at {H H' : Hp} {l : Addr} {o : HO} (s : Same H H') (hl : H l = none) : Same H (upd H' l o) := fun b u e => by
  rw [upd_ne (ne_of_none e hl)]
  exact s b u e
theorem SqT.put {K : PySem.W.Frag} {H : Hp} {a l : Addr} {xs ys : List V} {o : HO} (h : SqT K H a xs) (hl : H l = some (.lst ys)) : SqT K (upd H l o) a xs := by
  rcases h with (h | ⟨o', h⟩) | h
  · exact .inl (.inl (by rw [upd_ne (ne_of h hl (by intro z; cases z))]; exact h))
  · exact .inl (.inr ⟨o', by rw [upd_ne (ne_of h hl (by intro z; cases z))]; exact h⟩)
  · exact .inr h
/-- a tuple of tuples of texts -/
structure WayAt (K : PySem.W.Frag) (H : Hp) (a : Addr) (way : List (List Str)) : Prop where
  ex : ∃ qs : List (Addr × List Str), SqT K H a (qs.map fun q => V.ref q.1) ∧ (∀ q ∈ qs, SqT K H q.1 (q.2.map V.str)) ∧ qs.map Prod.snd = way
theorem WayAt.same {K : PySem.W.Frag} {H H' : Hp} {a : Addr} {way : List (List Str)} (h : WayAt K H a way) (s : Same H H') : WayAt K H' a way := by
  obtain ⟨qs, h1, h2, h3⟩ := h
  exact ⟨qs, Vf.SqT.same h1 s, fun q hq => Vf.SqT.same (h2 q hq) s, h3⟩
theorem WayAt.put {K : PySem.W.Frag} {H : Hp} {a l : Addr} {ys : List V} {o : HO} {way : List (List Str)} (h : WayAt K H a way) (hl : H l = some (.lst ys)) : WayAt K (upd H l o) a way := by
  obtain ⟨qs, h1, h2, h3⟩ := h
  exact ⟨qs, Vf.SqT.put h1 hl, fun q hq => Vf.SqT.put (h2 q hq) hl, h3⟩
section
variable {P : Program} {w : World} {K : PySem.W.Frag} {mg : Str → Option Value} {base : Heap}
def sp_filledT (K : PySem.W.Frag) : Sp := fun vs H Q _ => ∃ (d l : Addr) (cs : List (Str × Nat)) (ws : List Str), vs = [.ref d, .ref l] ∧ H d = some (.dK (cellKv cs)) ∧ SqT K H l (ws.map V.str) ∧ ws.length ≤ 1000 ∧ (∀ z ∈ ws, z ∈ cs.map Prod.fst) ∧ ∀ H', Same H H' → Q (.int (total cs ws : Nat)) H'
theorem ok_filledT {f : Addr} {fd : FuncData} (F : Fun K "_filled" "_filled" s_filled f fd) (T : Txt0 K mg) : FnOk P w K mg base CX0 1 f fd p_filled (sp_filledT K) := by
  refine F.ok sc_filled (fun vs H Q E h => ?_) (fun cdv A outer s H vs Q E hr h => ?_)
  · obtain ⟨d, l, cs, ws, rfl, _⟩ := h
    rfl
  · obtain ⟨d, l, cs, ws, rfl, hd, hl, few, hin, k⟩ := h
    refine ⟨_, pss_one (ps_ret (pe_callB (cr_sum rfl) (by rfl) T.sum (by decide +kernel) (pa_cons (pe_lc (own := [("name", 2)]) (g := gName 2) (tt := tYes) rfl sc_filled.nd (pi_tup (pv 1)) (blkOk_by (N := n_filled) (sc := defScope s_filled) (by decide +kernel))
        (fun _ _ _ _ _ => pg_name (i := 2) sc_filled.nd rfl (Or.inl rfl)) (fun _ _ _ _ _ => pts_nil) (fun _ _ _ _ _ => pe_dget (hu_of hr) (pv 0) (pv 2) (fun _ _ => rfl))) pa_nil))), ?_⟩
    refine ⟨_, rfl, l, rfl, ⟨_, hl⟩, fun D hD => lc_mp ws (walk_tup (K := K) (a := l) (xs := ws.map V.str) |> fun z => by rw [List.length_map] at z; exact z) hD (fun z => .int (sizeOfD cs z : Nat)) (by omega) (fun H5 s5 => Vf.SqT.same hl s5) ?_ ?_⟩
    · rintro j z x H2 H3 hj s2 ⟨rfl, hx⟩ R hR
      rw [List.getElem?_map, hj] at hx
      obtain rfl : V.str z = x := Option.some.inj hx
      have hz := size_some (hin z (List.mem_of_getElem? hj))
      have gg := DGet.k (k := Sum.inr z) (s2 _ _ hd)
      rw [valV_cells, hz] at gg
      exact ⟨rfl, _, rfl, _, rfl, d, _, rfl, gg, hR _ (Same.refl _)⟩
    · intro H2 s2 hL
      refine ⟨D, ws.map fun z => ((sizeOfD cs z : Nat) : Int), rfl, SqL.of (by rw [hL, List.map_map]; rfl), ?_⟩
      have e : (ws.map fun z => ((sizeOfD cs z : Nat) : Int)).sum = ((total cs ws : Nat) : Int) := by
        unfold total
        clear hin hl few k hL
        induction ws with
        | nil => rfl
        | cons z r ih =>
          rw [List.map_cons, List.map_cons, List.sum_cons, List.sum_cons, ih]
          omega
      rw [e]
      exact k _ s2
/-- do these cells fit in a line? -/
def fitB (cs : List (Str × Nat)) (r : Nat) (ws : List Str) : Bool := decide (total cs ws ≤ r)
/-- a list of ways -/
structure WaysAt (K : PySem.W.Frag) (H : Hp) (l : Addr) (bs : List (Addr × List (List Str))) : Prop where
  at_ : H l = some (.lst (bs.map fun b => V.ref b.1))
  each : ∀ b ∈ bs, WayAt K H b.1 b.2
theorem WaysAt.same {K : PySem.W.Frag} {H H' : Hp} {l : Addr} {bs : List (Addr × List (List Str))} (h : WaysAt K H l bs) (s : Same H H') : WaysAt K H' l bs := ⟨s _ _ h.at_, fun b hb => (h.each b hb).same s⟩
theorem WaysAt.more {K : PySem.W.Frag} {H : Hp} {l p : Addr} {bs : List (Addr × List (List Str))} {way : List (List Str)} (h : WaysAt K H l bs) (hp : WayAt K H p way) : WaysAt K (upd H l (.lst ((bs.map fun b => V.ref b.1) ++ [.ref p]))) l (bs ++ [(p, way)]) :=
  ⟨by rw [upd_same, List.map_append]; rfl, fun b hb => by
    rcases List.mem_append.mp hb with z | z
    · exact (h.each b z).put h.at_
    · rw [List.mem_singleton.mp z]
      exact hp.put h.at_⟩
theorem fm_range {α : Type} (f : Nat → Option α) (i : Nat) : (List.range (i + 1)).filterMap f = (List.range i).filterMap f ++ (f i).toList := by
  rw [List.range_succ, List.filterMap_append]
  cases h : f i with
  | none => simp [h]
  | some x => simp [h]
theorem fm_range_len {α : Type} (f : Nat → Option α) (i : Nat) : ((List.range i).filterMap f).length ≤ i := by
  have := List.length_filterMap_le f (List.range i)
  rwa [List.length_range] at this
def sp_with_cell (K : PySem.W.Frag) : Sp := fun vs H Q _ => ∃ (d a : Addr) (cs : List (Str × Nat)) (r : Nat) (way : List (List Str)) (z : Str), vs = [.ref d, .int (r : Int), .ref a, .str z] ∧ H d = some (.dK (cellKv cs)) ∧ WayAt K H a way ∧ z ∈ cs.map Prod.fst ∧ (∀ ws ∈ way, ∀ y ∈ ws, y ∈ cs.map Prod.fst) ∧
  way.length ≤ 100 ∧ (∀ ws ∈ way, ws.length ≤ 100) ∧ ∀ D bs H', Same H H' → H D = none → WaysAt K H' D bs → bs.map Prod.snd = withC (fitB cs r) z way → Q (.ref D) H'
theorem ok_with_cell {f : Addr} {fd : FuncData} (F : Fun K "_with_cell" "_with_cell" s_with_cell f fd) (T : Txt0 K mg) (GF : OkF P w K mg base CX0 "_filled" p_filled 1 (sp_filledT K)) : FnOk P w K mg base CX0 2 f fd p_with_cell (sp_with_cell K) := by
  refine F.ok sc_with_cell (fun vs H Q E h => ?_) (fun cdv A outer s H vs Q E hr h => ?_)
  · obtain ⟨d, a, cs, r, way, z, rfl, _⟩ := h
    rfl
  · obtain ⟨d, a, cs, r, way, z, rfl, hd, ⟨qs, hqs, hq, rfl⟩, hz, hin, lw, ll, k⟩ := h
    refine ⟨_, pss_cons (ps_set (i := 4) sc_with_cell.nd rfl (Or.inl rfl) (pe_lst pa_nil))
      (pss_cons (ps_for PassesOwn.never rfl (pi_enumT (by rfl) T.enumerate (pa_cons (pv 2) pa_nil)) (pg_tup (by rfl) (pgs_cons (pg_name (i := 5) sc_with_cell.nd rfl (Or.inl rfl)) (pgs_cons (pg_name (i := 6) sc_with_cell.nd rfl (Or.inl rfl)) pgs_nil)))
        (pss_cons (ps_set (i := 7) sc_with_cell.nd rfl (Or.inl rfl) (pe_op op_catA (pv 6) (pe_tup (pa_cons (pv 3) pa_nil))))
        (pss_one (ps_if (pt_cmpR op_le (pe_fn GF hr rfl pass0 (pa_cons (pv 0) (pa_cons (pv 7) pa_nil))) (pv 1) (nomark _))
          (pss_one (ps_expr (pe_bm PySem.F.plainAttrs_list PySem.F.slot_list_append PySem.F.type_list_append mt_append (pv 4) (pa_cons
            (pe_op op_catA (pe_op op_catA (pe_slice sl_tupA (pv 2) po_none (po_some (pv 5))) (pe_tup (pa_cons (pv 7) pa_nil))) (pe_slice sl_tupA (pv 2) (po_some (pe_op op_add (pv 5) pe_int)) po_none)) pa_nil)))) pss_nil))))
      (pss_cons (ps_if (pt_cmpR op_le (pe_dget (hu_of hr) (pv 0) (pv 3) (fun _ _ => rfl)) (pv 1) (nomark _))
        (pss_one (ps_expr (pe_bm PySem.F.plainAttrs_list PySem.F.slot_list_append PySem.F.type_list_append mt_append (pv 4) (pa_cons (pe_op op_catA (pv 2) (pe_tup (pa_cons (pe_tup (pa_cons (pv 3) pa_nil)) pa_nil))) pa_nil)))) pss_nil)
      (pss_one (ps_ret (pv 4))))), ?_⟩
    refine ⟨Nat.zero_le _, fun fl hfl => ?_⟩
    have s1 := same_new (o := .lst []) hfl
    have w1 : WaysAt K (upd H fl (.lst [])) fl [] := ⟨upd_same, fun b hb => nomatch hb⟩
    have lq : qs.length ≤ 100 := by rwa [List.length_map] at lw
    have wt : Walk (IteT K a) qs.length (fun H => SqT K H a (qs.map fun q => V.ref q.1)) (YPair (fun i => some (.int (i : Nat))) (fun i => (qs.map fun q => V.ref q.1)[i]?)) := (walk_enumT (K := K) (a := a) (xs := qs.map fun q => V.ref q.1) |> fun z => by rw [List.length_map] at z; exact z)
    refine ⟨_, rfl, a, _, rfl, Vf.SqT.same hqs s1, for_it wt (fun i σ H' => ∃ v5 v6 v7 bs, σ = [some (.ref d), some (.int (r : Int)), some (.ref a), some (.str z), some (.ref fl), v5, v6, v7] ∧ Same H H' ∧ WaysAt K H' fl bs ∧ bs.map Prod.snd = (List.range i).filterMap (putI (fitB cs r) z (qs.map Prod.snd)))
      ⟨_, _, _, [], rfl, s1, w1, rfl⟩ (fun i σ H' _ ⟨_, _, _, _, _, s, _⟩ => Vf.SqT.same hqs s) ?_ ?_⟩
    · rintro i x σ H5 H6 hi ⟨v5, v6, v7, bs, rfl, s5, w5, e5⟩ ⟨T1, x1, x2, rfl, hT1, rfl, hx1, hx2⟩
      have ha : qs[i]? = some qs[i] := List.getElem?_eq_getElem hi
      generalize qs[i] = q at ha
      have hm := List.mem_of_getElem? ha
      obtain rfl : V.int (i : Nat) = x1 := Option.some.inj hx1
      replace hx2 : (qs.map fun q => V.ref q.1)[i]? = some x2 := hx2
      rw [List.getElem?_map, ha] at hx2
      obtain rfl : V.ref q.1 = x2 := Option.some.inj hx2
      have lb : bs.length ≤ i := by
        have := fm_range_len (putI (fitB cs r) z (qs.map Prod.snd)) i
        rw [← e5, List.length_map] at this
        exact this
      have hq2 : q.2 ∈ qs.map Prod.snd := List.mem_map_of_mem hm
      have lq2 := ll _ hq2
      have sT := same_new (o := .tup [.int (i : Nat), .ref q.1]) hT1
      have s6 := s5.trans sT
      have w6 := w5.same sT
      have gd : (qs.map Prod.snd).getD i [] = q.2 := by
        rw [List.getD_eq_getElem?_getD, List.getElem?_map, ha]
        rfl
      refine ⟨T1, _, rfl, SqT.of upd_same, rfl, _, _, rfl, _, _, rfl, rfl, ?_⟩
      generalize upd H5 T1 (.tup [.int (i : Nat), .ref q.1]) = H6 at s6 w6 ⊢
      refine ⟨_, rfl, _, rfl, (by show 1 ≤ sizeLine; decide), fun n1 hn1 => catA_any (Vf.SqT.same (hq q hm) (s6.trans (same_new hn1))) (SqT.of upd_same) (by rw [List.length_map]; show q.2.length + 1 ≤ 1000; omega) fun p2 H7 s7 h7 => ?_⟩
      have s67 := (same_new hn1).trans s7
      have s07 := s6.trans s67
      have w7 := w6.same s67
      have h7' : SqT K H7 p2 ((q.2 ++ [z]).map V.str) := by rw [List.map_append]; exact h7
      have inz : ∀ y ∈ q.2 ++ [z], y ∈ cs.map Prod.fst := fun y hy => by
        rcases List.mem_append.mp hy with h | h
        · exact hin _ hq2 y h
        · rw [List.mem_singleton.mp h]
          exact hz
      refine ⟨_, rfl, _, rfl, d, p2, cs, q.2 ++ [z], rfl, s07 _ _ hd, h7', by rw [List.length_append, List.length_singleton]; omega, inz, fun H8 s8 => ⟨_, rfl, _, _, rfl, rfl, _, rfl, ?_⟩⟩
      have s08 := s07.trans s8
      have w8 := w7.same s8
      have h8 := Vf.SqT.same h7' s8
      by_cases ht : total cs (q.2 ++ [z]) ≤ r
      · rw [decide_eq_true (p := ((total cs (q.2 ++ [z]) : Nat) : Int) ≤ (r : Int)) (by omega)]
        have il : i < (qs.map fun q => V.ref q.1).length := by rw [List.length_map]; exact hi
        refine iteT ⟨_, rfl, .inl ⟨rfl, _, SqL.of w8.at_⟩, _, rfl, _, rfl, _, rfl, slA_left (Vf.SqT.same hqs s08) il fun p3 H9 s9 h9 => ⟨_, rfl, (by show 1 ≤ sizeLine; decide), fun n2 hn2 => catA_any (Vf.SqT.same h9 (same_new hn2)) (SqT.of upd_same) (by rw [List.length_take, List.length_map]; show min i qs.length + 1 ≤ 1000; omega) fun p4 H10 s10 h10 => ?_⟩⟩
        have s810 := s9.trans ((same_new hn2).trans s10)
        refine ⟨_, rfl, _, rfl, _, _, rfl, rfl, _, rfl, ?_⟩
        dsimp only [tNoPart]
        refine slA_right (Vf.SqT.same hqs (s08.trans s810)) il fun p5 H11 s11 h11 => catA_any (Vf.SqT.same h10 s11) h11 (by simp only [List.length_append, List.length_take, List.length_drop, List.length_map, List.length_singleton]; omega) fun p6 H12 s12 h12 => ?_
        have s812 := s810.trans (s11.trans s12)
        have w12 := w8.same s812
        have hnew : WayAt K H12 p6 ((qs.map Prod.snd).set i (q.2 ++ [z])) := by
          refine ⟨(qs.take i ++ [(p2, q.2 ++ [z])]) ++ qs.drop (i + 1), ?_, fun q' hq' => ?_, ?_⟩
          · rw [List.map_append, List.map_append, List.map_take, List.map_drop]
            exact h12
          · rcases List.mem_append.mp hq' with h | h
            · rcases List.mem_append.mp h with h | h
              · exact Vf.SqT.same (hq q' (List.mem_of_mem_take h)) (s08.trans s812)
              · rw [List.mem_singleton.mp h]
                exact Vf.SqT.same h8 s812
            · exact Vf.SqT.same (hq q' (List.mem_of_mem_drop h)) (s08.trans s812)
          · rw [List.map_append, List.map_append, List.map_take, List.map_drop, List.set_eq_take_append_cons_drop, if_pos (by rw [List.length_map]; exact hi), List.append_assoc]
            rfl
        refine ⟨fl, _, _, rfl, rfl, w12.at_, by rw [List.length_map, sizeLine_eq]; omega, ?_⟩
        refine ⟨_, _, _, bs ++ [(p6, (qs.map Prod.snd).set i (q.2 ++ [z]))], rfl, same_at (s08.trans s812) hfl, w12.more hnew, ?_⟩
        rw [fm_range, List.map_append, e5]
        congr 1
        unfold putI fitB
        rw [gd, if_pos (decide_eq_true ht)]
        rfl
      · rw [decide_eq_false (p := ((total cs (q.2 ++ [z]) : Nat) : Int) ≤ (r : Int)) (by omega)]
        refine iteF ⟨_, _, _, bs, rfl, s08, w8, ?_⟩
        rw [fm_range, e5]
        unfold putI fitB
        rw [gd, if_neg (by rw [decide_eq_false ht]; simp)]
        simp
    · rintro σ H5 ⟨v5, v6, v7, bs, rfl, s5, w5, e5⟩
      have gg := DGet.k (k := Sum.inr z) (s5 _ _ hd)
      rw [valV_cells, size_some hz] at gg
      refine ⟨_, rfl, _, rfl, d, _, rfl, gg, _, rfl, _, _, rfl, rfl, _, rfl, ?_⟩
      have lb : bs.length ≤ qs.length := by
        have := fm_range_len (putI (fitB cs r) z (qs.map Prod.snd)) qs.length
        rw [← e5, List.length_map] at this
        exact this
      have tz : total cs [z] = sizeOfD cs z := by simp [total]
      by_cases ht : total cs [z] ≤ r
      · rw [decide_eq_true (p := ((sizeOfD cs z : Nat) : Int) ≤ (r : Int)) (by omega)]
        refine iteT ⟨_, rfl, .inl ⟨rfl, _, SqL.of w5.at_⟩, _, rfl, _, rfl, (by show 1 ≤ sizeLine; decide), fun n1 hn1 => ⟨(by show 1 ≤ sizeLine; decide), fun n2 hn2 => ?_⟩⟩
        have s6 := (same_new (o := .tup [.str z]) hn1).trans (same_new (o := .tup [.ref n1]) hn2)
        refine catA_any (Vf.SqT.same hqs (s5.trans s6)) (SqT.of upd_same) (by rw [List.length_map]; show qs.length + 1 ≤ 1000; omega) fun p6 H12 s12 h12 => ?_
        have s512 := s6.trans s12
        have w12 := w5.same s512
        have hnew : WayAt K H12 p6 (qs.map Prod.snd ++ [[z]]) := by
          refine ⟨qs ++ [(n1, [z])], by rw [List.map_append]; exact h12, fun q' hq' => ?_, by rw [List.map_append]; rfl⟩
          rcases List.mem_append.mp hq' with h | h
          · exact Vf.SqT.same (hq q' h) (s5.trans s512)
          · rw [List.mem_singleton.mp h]
            exact SqT.of (s12 _ _ (same_new hn2 _ _ upd_same))
        refine ⟨fl, _, _, rfl, rfl, w12.at_, by rw [List.length_map, sizeLine_eq]; omega, ?_⟩
        refine ⟨_, rfl, k fl (bs ++ [(p6, qs.map Prod.snd ++ [[z]])]) _ (same_at (s5.trans s512) hfl) hfl (w12.more hnew) ?_⟩
        unfold withC
        rw [List.map_append, e5, List.length_map]
        congr 1
        unfold fitB
        rw [if_pos (decide_eq_true ht)]
        rfl
      · rw [decide_eq_false (p := ((sizeOfD cs z : Nat) : Int) ≤ (r : Int)) (by omega)]
        refine iteF ⟨_, rfl, k fl bs _ s5 hfl w5 ?_⟩
        unfold withC
        rw [e5, List.length_map]
        unfold fitB
        rw [if_neg (by rw [decide_eq_false ht]; simp), List.append_nil]
end
end Vf

set_option maxRecDepth 100000
set_option maxHeartbeats 4000000
namespace Vf
open PySem PySem.Spec PyProof.Rows L2
abbrev wayScope : Scope := { kind := .function, names := [(Str.ofString "way", .local), (Str.ofString "len", .globalImplicit)], isGenerator := false, isCoroutine := false, more := [] }
abbrev wayParams (p : Pos) : Arguments := { posonlyargs := [], args := [{ arg := "way", annotation := none, pos := p }], vararg := none, kwonlyargs := [], kw_defaults := [], kwarg := none, defaults := [] }
abbrev wayBody (p1 p2 p3 p4 p5 : Pos) : Expr := .Tuple [.Call (.Name "len" p1) [.Name "way" p2] [] p3, .Name "way" p4] 0 p5
section
variable {prog : Program} {w : World} {A : Around} {E : Value → Shared → Prop} {s : Shared}
theorem way_call {f c' a : Addr} {qual : Str} {pm ctv : Value} {mg mb : Str → Option Value} {p0 p1 p2 p3 p4 p5 : Pos} {its : Array Value} {Q : Value → Shared → Prop} (hd : A.depth < recursionLimit)
    (hf : s.heap.get? f = some (PySem.W.kla_obj "<lambda>" qual (wayParams p0) (wayBody p1 p2 p3 p4 p5) wayScope [] pm c' ctv)) (hc : s.heap.CodeRec (.ref c') qual) (hg : s.heap.Ns mainGlobals mg) (hm : mg "len" = none) (hb : s.heap.Ns builtinsNs mb)
    (hl : mb "len" = some (.builtin "len")) (lim : s.heap.NoLimit) (ha : IsTup s.heap a its) (fit : (its.size : Int) < 2 ^ 63)
    (h : ∀ h' tk T t1, (∀ b o, s.heap.get? b = some o → h'.get? b = some o) → h'.get? T = some { cls := .type "tuple", data := .seq #[.int its.size t1, .ref a] } → s.heap.objs.size ≤ T → Q (.ref T) { s with heap := h', toks := tk }) :
    wpAny (model prog w) A (call (.ref f) [.ref a]) Q E s := by
  refine wpAny_call (PySem.W.kla_callFunE hd hf rfl rfl rfl rfl hc ?_)
  rw [show bindArgs (PySem.W.kla_fn "<lambda>" qual (wayParams p0) (wayBody p1 p2 p3 p4 p5) wayScope [] pm (.ref c') ctv) ⟨[.ref a], []⟩ = pure [(Str.ofString "way", .ref a)] from rfl]
  refine wpAny_pure (wpAny_newFunctionEnv (show ∀ x ∈ wayScope.names, x.2 ≠ .cell by decide) (fun x hx => by cases List.mem_singleton.mp hx; rfl) (fun h₁ hns hsb => ⟨lim.fresh _ hsb, ?_⟩) rfl)
  have kp : ∀ b o, s.heap.get? b = some o → h₁.get? b = some o := fun b o e => (hsb.2 b (Nat.ne_of_lt (Heap.lt_size e))).trans (Heap.get?_push_of_some _ e)
  refine PySem.W.kla_codeExpr ?_
  refine wpAny_Tuple_spliced ?_
  refine Calls.spliced_cons ?_
  refine wpAny_Call_Name_kw (Calls.Name_function_global rfl rfl (Calls.loadGlobal_builtin (hg.keeps kp) hm (hb.keeps kp) hl ?_))
  refine PyProof.Rows.callWith_builtin1 ?_ rfl rfl
  refine Calls.spliced_cons (wpAny_Name (wpAny_loadName_local rfl rfl hns rfl ?_))
  refine Calls.spliced_nil ?_
  refine PyProof.Rows.len_tuple (ha.keeps kp) fit ?_
  refine Calls.spliced_cons (wpAny_Name (wpAny_loadName_local rfl rfl hns rfl ?_))
  refine Calls.spliced_nil ⟨by show 2 ≤ sizeLine; rw [sizeLine_eq]; omega, ?_⟩
  refine h _ _ _ _ (fun b o e => Heap.get?_push_of_some _ (kp b o e)) (Heap.get?_push_size _ rfl) ?_
  have e := hsb.1
  rw [Heap.size_push] at e
  show s.heap.objs.size ≤ h₁.objs.size
  omega
end
/-- a heap with nothing in it -/
def emp : Heap := { objs := #[] }
theorem emp_get (b : Addr) : emp.get? b = none := Heap.get?_none_of_le (Nat.zero_le _)
/-- all that stands, but L -/
def standing (h : Heap) (L : Addr) : List (Addr × Obj) := (List.range h.objs.size).filterMap fun b => if b = L then none else (h.get? b).map fun o => (b, o)
theorem mem_standing {h : Heap} {L b : Addr} {o : Obj} : (b, o) ∈ standing h L ↔ h.get? b = some o ∧ b ≠ L := by
  unfold standing
  rw [List.mem_filterMap]
  constructor
  · rintro ⟨c, _, e⟩
    by_cases hc : c = L
    · rw [if_pos hc] at e
      cases e
    · rw [if_neg hc] at e
      cases q : h.get? c with
      | none =>
        rw [q] at e
        cases e
      | some x =>
        rw [q] at e
        cases e
        exact ⟨q, hc⟩
  · rintro ⟨e, hne⟩
    refine ⟨b, List.mem_range.mpr (Heap.lt_size e), ?_⟩
    rw [if_neg hne, e]
    rfl
theorem ns_one {h : Heap} {a : Addr} {m m' : Str → Option Value} (x : h.Ns a m) (y : h.Ns a m') : m' = m := by
  obtain ⟨o, es, ep, e1, e2, _, e3⟩ := x
  obtain ⟨o', es', ep', f1, f2, _, f3⟩ := y
  rw [e1] at f1
  cases f1
  rw [e2] at f2
  cases f2
  funext n
  rw [← e3, ← f3]
section
variable {X : Cx} {pins : List (Addr × Obj)} {σ : L2.St} {H : Hp} {s : Shared} {m : Str → Option Value}
/-- what stood stands -/
theorem inv_news {h : Heap} {tk : Nat} (I : Inv X pins σ H s) (nm : s.heap.Ns X.env.locals m) (nm' : h.Ns X.env.locals m) (N : ∀ b o, s.heap.get? b = some o → b ≠ X.env.locals → h.get? b = some o) : Inv X pins σ H { s with heap := h, toks := tk } := by
  have nL : ∀ b u, H b = some u → b ≠ X.env.locals := fun b u e z => by
    rw [z, I.free] at e
    cases e
  refine I.step (g' := s.gens) (d' := s.drawn) (ch := []) (fun b hb => absurd hb (by simp)) (fun b o hb _ _ e _ => N b o e hb) (fun b o hb _ _ e _ => ⟨o.slots, N b o e hb⟩) (fun b o _ e n => n) (fun b o _ e => ?_) (fun b xs e => e) (fun b o u e => e) (fun b qs e => ⟨#[], by rw [e]; simp⟩)
    (fun m' hn => ?_) (fun b u e => ?_) I.bare
  · by_cases hb : b = X.env.locals
    · obtain ⟨o', _, _, e', _⟩ := nm'
      exact ⟨o', by rw [hb]; exact e'⟩
    · exact ⟨o, N b o e hb⟩
  · rw [ns_one nm hn]
    exact nm'
  · refine (I.hok b u e).stay (fun d v hd q => N d v q ?_) (fun d q => q) fun d xs q => q
    rcases hd with z | z
    · rw [z]
      exact nL b u e
    · exact nL d _ z
/-- what stood stands, and D is new -/
theorem inv_new {h : Heap} {tk : Nat} {D : Addr} {o : HO} (I : Inv X pins σ H s) (nm : s.heap.Ns X.env.locals m) (nm' : h.Ns X.env.locals m) (N : ∀ b o, s.heap.get? b = some o → b ≠ X.env.locals → h.get? b = some o) (hD : s.heap.get? D = none)
    (hDo : ObjOk X.prog X.w (upd H D o) h D o) : Inv X pins σ (upd H D o) { s with heap := h, toks := tk } := by
  have nL : ∀ b u, H b = some u → b ≠ X.env.locals := fun b u e z => by
    rw [z, I.free] at e
    cases e
  have nD : ∀ b u, H b = some u → b ≠ D := fun b u e z => by
    obtain ⟨ob, q⟩ := objOk_get (I.hok b u e)
    rw [z, hD] at q
    cases q
  have sD : ∀ b ob, s.heap.get? b = some ob → b ≠ D := fun b ob e z => by
    rw [z, hD] at e
    cases e
  refine I.step (g' := s.gens) (d' := s.drawn) (ch := []) (fun b hb => absurd hb (by simp)) (fun b o hb _ _ e _ => N b o e hb) (fun b o hb _ _ e _ => ⟨o.slots, N b o e hb⟩) (fun b o _ e n => by rw [upd_ne (sD b o e)]; exact n) (fun b o _ e => ?_)
    (fun b xs e => by rw [upd_ne (nD b _ e)]; exact e) (fun b o u e => by rw [upd_ne (nD b _ e)]; exact e) (fun b qs e => ⟨#[], by rw [upd_ne (nD b _ e), e]; simp⟩) (fun m' hn => ?_) (fun b u e => ?_) I.bare
  · by_cases hb : b = X.env.locals
    · obtain ⟨o', _, _, e', _⟩ := nm'
      exact ⟨o', by rw [hb]; exact e'⟩
    · exact ⟨o, N b o e hb⟩
  · rw [ns_one nm hn]
    exact nm'
  · by_cases hb : b = D
    · rw [hb, upd_same] at e
      cases e
      rw [hb]
      exact hDo
    · rw [upd_ne hb] at e
      refine (I.hok b u e).stay (fun d v hd q => N d v q ?_) (fun d q => by rw [upd_ne (nD d _ q)]; exact q) fun d xs q => by rw [upd_ne (nD d _ q)]; exact q
      rcases hd with z | z
      · rw [z]
        exact nL b u e
      · exact nL d _ z
end
mutual
inductive Flat : PyData → Prop
  | int (i : Int) : Flat (.int i)
  | str (x : Str) : Flat (.str x)
  | tup {ds : List PyData} : FlatAll ds → Flat (.tuple ds)
inductive FlatAll : List PyData → Prop
  | nil : FlatAll []
  | cons {d : PyData} {ds : List PyData} : Flat d → FlatAll ds → FlatAll (d :: ds)
end
mutual
theorem flat_reads {h h' : Heap} (k : ∀ b o vs n, h.get? b = some o → o.cls = .type "tuple" → o.data = .seq vs n → h'.get? b = some o) : ∀ (d : PyData) (v : Value) (as : List Addr), Flat d → Reads h v d as → Reads h' v d as
  | .none, _, _, f, _ => by cases f
  | .bool _, _, _, f, _ => by cases f
  | .int i, _, _, _, r => by
    cases r
    exact Reads.int i _
  | .str x, _, _, _, r => by
    cases r
    exact Reads.str x _
  | .list _, _, _, f, _ => by cases f
  | .dict _, _, _, f, _ => by cases f
  | .tuple ds, _, _, f, r => by
    cases f with
    | tup fa =>
      cases r with
      | tuple ho hc hd hr => exact Reads.tuple (k _ _ _ _ ho hc hd) hc hd (flat_all k ds _ _ fa hr)
theorem flat_all {h h' : Heap} (k : ∀ b o vs n, h.get? b = some o → o.cls = .type "tuple" → o.data = .seq vs n → h'.get? b = some o) : ∀ (ds : List PyData) (vs : List Value) (as : List Addr), FlatAll ds → ReadsAll h vs ds as → ReadsAll h' vs ds as
  | [], _, _, _, r => by
    cases r
    exact ReadsAll.nil
  | d :: ds, _, _, f, r => by
    cases f with
    | cons f1 f2 =>
      cases r with
      | cons r1 r2 => exact ReadsAll.cons (flat_reads k d _ _ f1 r1) (flat_all k ds _ _ f2 r2)
end
theorem all_length {h : Heap} : ∀ {vs : List Value} {ds : List PyData} {as : List Addr}, ReadsAll h vs ds as → vs.length = ds.length
  | [], _, _, r => by
    cases r
    rfl
  | v :: vs, _, _, r => by
    cases r with
    | cons _ r2 => exact congrArg (· + 1) (all_length r2)
abbrev wayKey (b : V × List PyData) : PyData := .tuple [.int b.2.length, .tuple b.2]
def tSortKey (K : PySem.W.Frag) (T : List (Addr × Str)) (t : TA) : TE := fun σ H Q => t σ H fun vs H1 => LamX.Tabs T H1 ∧ ∀ H2, LamX.ExtN H1 H2 → LamX.Tabs T H2 → ∃ (a : Addr) (bs : List (V × List PyData)), vs = [.ref a] ∧ SqL K H2 a (bs.map Prod.fst) ∧ bs.length ≤ 1000000 ∧
  (∀ b ∈ bs, Dp K H2 b.1 (.tuple b.2) ∧ FlatAll b.2 ∧ (wayKey b).depth ≤ 64 ∧ b.2.length ≤ 1000000) ∧ PySem.W.AllAlike (bs.map wayKey) ∧ ∀ p, H2 p = none → Q (.ref p) (upd H2 p (.lst ((bs.mergeSort (PySem.W.dataLe false wayKey)).map Prod.fst)))
theorem each_in {α : Type} : ∀ {bs : List (V × α)} {its : List Value}, Vals (bs.map Prod.fst) its → PySem.W.EachIs (fun v (b : V × α) => RelV b.1 v) its bs
  | [], _, h => by
    cases h
    exact .nil
  | b :: bs, _, h => by
    cases h with
    | cons h1 h2 => exact .cons h1 (each_in h2)
theorem each_out {α : Type} : ∀ {out : List Value} {bs : List (V × α)}, PySem.W.EachIs (fun v (b : V × α) => RelV b.1 v) out bs → Vals (bs.map Prod.fst) out
  | _, _, .nil => .nil
  | _, _, .cons h1 h2 => .cons h1 (each_out h2)
section
variable {X : Cx}
open Classical in
theorem pe_sortKey {T : List (Addr × Str)} {c P : Addr} {k : Nat} {arg : Expr} {t : TA} {p pos kp lpos p0 p1 p2 p3 p4 p5 : Pos} (hr : Room (k + 2) X.A) (hg : Gl X "sorted") (hm : X.mg "sorted" = none) (hml : X.mg "len" = none) (TB : LamX.TabB X.base X.mg c P) (hcode : X.env.code = .ref c)
    (hmT : (P, X.env.qual ++ "<lambda>") ∈ T) (hu : ∀ p ∈ T, p.1 = P → p.2 = X.env.qual ++ "<lambda>") (ha : PA X [arg] t)
    (he : backTo pos (starEach [arg] X.env) = (false, eval arg X.env) :: backTo pos (starEach [] X.env) := by rfl) (hpl : (backTo pos (starEach [arg] X.env)).any (·.1) = false := by rfl) :
    PE X (.Call (.Name "sorted" p) [arg] [{ arg := some "key", value := .Lambda (wayParams p0) (wayBody p1 p2 p3 p4 p5) wayScope lpos, pos := kp }] pos) (tSortKey X.K T t) := by
  refine ⟨fun pins s σ H Q I h => ?_⟩
  refine wpAny_Call_Name_kw (ld_blt I hg hm rfl ?_)
  refine PyProof.Rows.callWith_kw (thn (ha.run pos pins s σ H _ I h) fun us s1 ⟨vs, H1, I1, r1, T1, q1⟩ => ?_) he hpl rfl rfl
  refine PyProof.Rows.kws_cons (LamX.lam_make2 I1 TB hcode hmT hu T1 rfl (fun y hy e => ?_) fun f c' pm ctv H2 s2 I2 eN T2 hf hfn hfr hco => ?_)
  · have hy : y ∈ [(Str.ofString "way", NameKind.local), (Str.ofString "len", .globalImplicit)] := hy
    rcases List.mem_cons.mp hy with z | z
    · rw [z] at e
      cases e
    · rw [List.mem_singleton.mp z] at e
      cases e
  refine PyProof.Rows.kws_nil ?_
  obtain ⟨a, bs, rfl, hs, few, hb, al, q⟩ := q1 H2 eN T2
  rw [Vals.ref1 r1]
  show wpAny _ _ (call (.builtin "sorted") [.ref a] [(Str.ofString "key", .ref f)]) _ _ _
  obtain ⟨its, rv, hl, _⟩ := I2.list hs
  obtain ⟨m, nm, _⟩ := id I2.loc
  have F : Fr emp X.env.locals s2.heap m := ⟨nm, fun b o e => (by rw [emp_get] at e; cases e), Nat.zero_le _⟩
  have N : News emp X.env.locals s2.heap (standing s2.heap X.env.locals) := fun p hp => ⟨(mem_standing.mp hp).1, (mem_standing.mp hp).2, emp_get _⟩
  have notL : ∀ b o, s2.heap.get? b = some o → (∀ es ep, o.data ≠ .dict es ep) → b ≠ X.env.locals := fun b o e nd z => by
    obtain ⟨o', es, ep, e', d', _⟩ := nm
    rw [z, e'] at e
    cases e
    exact nd _ _ d'
  have un := hr.un
  have dp := hr.dp
  obtain ⟨⟨oc, cvs, ct, hoc, hdc, hvc⟩, _, _⟩ := I2.hok c' _ hco
  refine PySem.W.sorted_key_data_frame (b := false) (R := fun v (b : V × List PyData) => RelV b.1 v) (bs := bs) wayKey F N hl.isList (each_in rv) al (PySem.W.Sortable.tuples fun b => ⟨_, _, rfl⟩) (by rw [sizeLine_eq]; omega) (fun b hbm => by have := (hb b hbm).2.2.1; omega)
    (PyProof.Rows.ksk_s1 _ _) (fun x => PyProof.Rows.ksk_l1 _ _) (fun x => PyProof.Rows.ksk_t1 _ _) (fun v b rvb hbm h tk own F' N' => ?_) fun D out cc h' tk F' N' hD ho eo => ?_
  · have kk : ∀ b o, s2.heap.get? b = some o → b ≠ X.env.locals → h.get? b = some o := fun b o e hn => (N' (b, o) (List.mem_append_left _ (mem_standing.mpr ⟨e, hn⟩))).1
    have J : Inv X pins σ H2 { s2 with heap := h, toks := tk } := inv_news I2 nm F'.ns kk
    obtain ⟨as2, rd2⟩ := Dp.reads I2 _ _ _ (hb b hbm).1 rvb
    have rd0 := rd2
    cases rd2 with
    | @tuple a' o' vs' n' _ _ ho hc hd hrA =>
      have len := all_length hrA
      rw [Array.length_toList] at len
      have na : a' ≠ X.env.locals := notL _ _ ho fun es ep z => by
        rw [hd] at z
        cases z
      obtain ⟨mb, h1, h2⟩ := J.mod.blt
      have nf : f ≠ X.env.locals := notL _ _ hf fun es ep z => by cases z
      have ncd : c' ≠ X.env.locals := notL _ _ hoc fun es ep z => by
        rw [hdc] at z
        cases z
      have fit : (vs'.size : Int) < 2 ^ 63 := by
        have := (hb b hbm).2.2.2
        rw [len]
        omega
      refine way_call (mg := X.mg) (mb := mb) (s := { s2 with heap := h, toks := tk }) (its := vs') ?_ (kk _ _ hf nf) ⟨c', oc, cvs, ct, rfl, kk _ _ hoc ncd, hdc, hvc⟩ (J.mod.glob.keeps J.bk) hml (h1.keeps J.bk) (h2 "len" (by decide)) J.nolimit ⟨o', kk _ _ ho na, hc, n', hd⟩ fit fun g tk2 Tp t1 kp hT hT2 => ?_
      · show X.A.depth < recursionLimit
        omega
      have nT : Tp ≠ X.env.locals := Nat.ne_of_gt (Nat.lt_of_lt_of_le F'.ns.lt hT2)
      refine ⟨g, tk2, (Tp, { cls := .type "tuple", data := .seq #[.int vs'.size t1, .ref a'] }) :: (standing s2.heap X.env.locals).filter (fun p => decide (p.2.cls = .type "tuple")), rfl, fun h3 _ hm3 => ?_, fun p hp => ?_, ⟨F'.ns.keeps kp, fun b o e => (by rw [emp_get] at e; cases e), Nat.zero_le _⟩, fun p hp => ?_⟩
      · have fl := flat_reads (h := s2.heap) (h' := h3) (fun b' o vs n e1 e2 e3 => hm3 (b', o) (.tail _ (List.mem_filter.mpr ⟨mem_standing.mpr ⟨e1, notL _ _ e1 fun es ep z => by rw [e3] at z; cases z⟩, decide_eq_true e2⟩))) _ _ _ (Flat.tup (hb b hbm).2.1) rd0
        have i := Reads.int (h := h3) (b.2.length : Int) t1
        rw [← len] at i
        have all := ReadsAll.cons i (ReadsAll.cons fl ReadsAll.nil)
        rw [len] at all
        exact ⟨_, Reads.tuple (hm3 _ (.head _)) rfl rfl (by rw [← len] at all ⊢; exact all)⟩
      · rcases List.mem_cons.mp hp with z | z
        · rw [z]
        · exact of_decide_eq_true (List.mem_filter.mp z).2
      · rcases List.mem_append.mp hp with z | z
        · obtain ⟨e1, e2, e3⟩ := N' p z
          exact ⟨kp _ _ e1, e2, e3⟩
        · rcases List.mem_cons.mp z with z | z
          · rw [z]
            exact ⟨hT, nT, emp_get _⟩
          · obtain ⟨e1, e2⟩ := mem_standing.mp (List.mem_filter.mp z).1
            exact ⟨kp _ _ (kk _ _ e1 e2), e2, emp_get _⟩
  · have kk : ∀ b o, s2.heap.get? b = some o → b ≠ X.env.locals → h'.get? b = some o := fun b o e hn => (N' (b, o) (.tail _ (mem_standing.mpr ⟨e, hn⟩))).1
    obtain ⟨atD, nDL, _⟩ := N' _ (.head _)
    have sD : s2.heap.get? D = none := by
      cases z : s2.heap.get? D with
      | none => rfl
      | some o => exact absurd (hD (D, o) (mem_standing.mpr ⟨z, nDL⟩)) (Nat.lt_irrefl _)
    have nD : H2 D = none := by
      cases z : H2 D with
      | none => rfl
      | some u =>
        obtain ⟨ob, e⟩ := objOk_get (I2.hok D u z)
        rw [sD] at e
        cases e
    have short : ((bs.mergeSort (PySem.W.dataLe false wayKey)).map Prod.fst).length ≤ sizeLine := by
      rw [List.length_map, List.length_mergeSort, sizeLine_eq]
      omega
    exact ⟨.ref D, upd H2 D (.lst ((bs.mergeSort (PySem.W.dataLe false wayKey)).map Prod.fst)), inv_new I2 nm F'.ns kk sD ⟨short, out, cc, each_out eo, atD⟩, rfl, q D nD⟩
end
end Vf

set_option maxRecDepth 100000
set_option maxHeartbeats 4000000
namespace Vf
open PySem PySem.Spec PyProof.Rows L2
def waD (way : List (List Str)) : PyData := .tuple (way.map lnD)
def keyW (way : List (List Str)) : PyData := .tuple [.int way.length, waD way]
def sortW (ws : List (List (List Str))) : List (List (List Str)) := ws.mergeSort (PySem.W.dataLe false keyW)
theorem toks_ln2 : ∀ {xs ys : List Str} {r r' : List (Int ⊕ List Nat)}, PySem.W.keyToksAll (xs.map PyData.str) ++ r = PySem.W.keyToksAll (ys.map PyData.str) ++ r' → xs = ys ∧ r = r'
  | [], [], r, r', h => by
    simp only [List.map_nil, PySem.W.keyToksAll, List.cons_append, List.nil_append] at h
    injection h with _ h
    exact ⟨rfl, h⟩
  | [], y :: ys, _, _, h => by simp [PySem.W.keyToksAll] at h
  | x :: xs, [], _, _, h => by simp [PySem.W.keyToksAll] at h
  | x :: xs, y :: ys, _, _, h => by
    simp only [List.map_cons, PySem.W.keyToksAll, PySem.W.keyToks, List.cons_append, List.nil_append] at h
    injection h with _ h
    injection h with q1 h
    obtain ⟨e1, e2⟩ := toks_ln2 h
    exact ⟨by rw [str_eq (Sum.inr.inj q1), e1], e2⟩
theorem toks_wa : ∀ {xs ys : List (List Str)} {r r' : List (Int ⊕ List Nat)}, PySem.W.keyToksAll (xs.map lnD) ++ r = PySem.W.keyToksAll (ys.map lnD) ++ r' → xs = ys
  | [], [], _, _, _ => rfl
  | [], y :: ys, _, _, h => by simp [PySem.W.keyToksAll] at h
  | x :: xs, [], _, _, h => by simp [PySem.W.keyToksAll] at h
  | x :: xs, y :: ys, _, _, h => by
    rw [List.map_cons, List.map_cons, PySem.W.keyToksAll, PySem.W.keyToksAll, List.cons_append, List.cons_append, List.append_assoc, List.append_assoc] at h
    injection h with _ h
    unfold lnD at h
    rw [PySem.W.keyToks, PySem.W.keyToks] at h
    obtain ⟨e1, e2⟩ := toks_ln2 h
    rw [e1, toks_wa e2]
theorem keyW_anti {a b : List (List Str)} (h1 : PySem.W.dataLe false keyW a b = true) (h2 : PySem.W.dataLe false keyW b a = true) : a = b := by
  have e1 : (listOrd itemOrd).blt (PySem.W.keyToks (keyW b)) (PySem.W.keyToks (keyW a)) = false := Bool.not_eq_true' _ |>.mp h1
  have e2 : (listOrd itemOrd).blt (PySem.W.keyToks (keyW a)) (PySem.W.keyToks (keyW b)) = false := Bool.not_eq_true' _ |>.mp h2
  have e := (listOrd itemOrd).total _ _ e2 e1
  unfold keyW waD at e
  simp only [PySem.W.keyToks, PySem.W.keyToksAll, List.cons_append, List.nil_append] at e
  injection e with _ e
  injection e with _ e
  injection e with _ e
  exact toks_wa e
theorem sortW_perm (ws : List (List (List Str))) : (sortW ws).Perm ws := List.mergeSort_perm ws _
theorem sortW_same {a b : List (List (List Str))} (p : a.Perm b) : sortW a = sortW b :=
  List.Perm.eq_of_pairwise (le := fun a b => PySem.W.dataLe false keyW a b = true) (fun _ _ _ _ h1 h2 => keyW_anti h1 h2) (List.pairwise_mergeSort (dle_trans keyW) (dle_total keyW) a) (List.pairwise_mergeSort (dle_trans keyW) (dle_total keyW) b)
    ((sortW_perm a).trans (p.trans (sortW_perm b).symm))
theorem alike_wa : ∀ xs ys : List (List Str), PySem.W.alikeAll (xs.map lnD) (ys.map lnD) = true
  | [], _ => by rw [List.map_nil, PySem.W.alikeAll]
  | _ :: _, [] => by rw [List.map_cons, List.map_nil, PySem.W.alikeAll]
  | x :: xs, y :: ys => by
    rw [List.map_cons, List.map_cons, PySem.W.alikeAll, alike_wa xs ys, alike_ln]
    rfl
theorem alike_keyW (a b : List (List Str)) : PySem.W.alike (keyW a) (keyW b) = true := by
  unfold keyW waD
  simp only [PySem.W.alike, PySem.W.alikeAll, alike_wa, Bool.and_self]
theorem flat_strs : ∀ ws : List Str, FlatAll (ws.map PyData.str)
  | [] => .nil
  | _ :: ws => .cons (.str _) (flat_strs ws)
theorem flat_wa : ∀ way : List (List Str), FlatAll (way.map lnD)
  | [] => .nil
  | _ :: way => .cons (.tup (flat_strs _)) (flat_wa way)
theorem depthAll_ln : ∀ ls : List (List Str), PyData.depthAll (ls.map lnD) ≤ 1
  | [] => by simp [PyData.depthAll]
  | x :: ls => by
    have := depthAll_ln ls
    simp only [List.map_cons, PyData.depthAll, lnD, PyData.depth, depth_strs]
    omega
theorem depth_wa (way : List (List Str)) : (waD way).depth ≤ 2 := by
  have := depthAll_ln way
  unfold waD
  simp only [PyData.depth]
  omega
theorem depth_keyW (way : List (List Str)) : (keyW way).depth ≤ 3 := by
  have := depth_wa way
  unfold keyW
  simp only [PyData.depth, PyData.depthAll]
  omega
def fac : Nat → Nat
  | 0 => 1
  | n + 1 => (n + 1) * fac n
theorem len_bind {α β : Type} {f : α → List β} {n : Nat} : ∀ {l : List α}, (∀ a ∈ l, (f a).length ≤ n) → (l.flatMap f).length ≤ n * l.length
  | [], _ => Nat.zero_le _
  | a :: l, h => by
    have h1 := h a List.mem_cons_self
    have h2 := len_bind fun b hb => h b (List.mem_cons_of_mem _ hb)
    rw [List.flatMap_cons, List.length_append, List.length_cons, Nat.mul_succ]
    omega
section
variable {fit : List Str → Bool}
theorem withC_len {z : Str} {way : List (List Str)} : (withC fit z way).length ≤ way.length + 1 := by
  have h := List.length_filterMap_le (putI fit z way) (List.range way.length)
  rw [List.length_range] at h
  unfold withC
  rw [List.length_append]
  split <;> simp <;> omega
theorem part_len {ns : List Str} {way : List (List Str)} (p : Part fit ns way) : way.length ≤ ns.length ∧ ∀ ws ∈ way, ws.length ≤ ns.length := by
  have key : ∀ {l : List (List Str)}, (∀ ws ∈ l, ws ≠ []) → l.length ≤ l.flatten.length ∧ ∀ ws ∈ l, ws.length ≤ l.flatten.length := by
    intro l
    induction l with
    | nil => exact fun _ => ⟨Nat.le_refl _, fun _ h => nomatch h⟩
    | cons a l ih =>
      intro h
      obtain ⟨h1, h2⟩ := ih fun ws hw => h ws (List.mem_cons_of_mem _ hw)
      have h3 := List.length_pos_iff.mpr (h a List.mem_cons_self)
      rw [List.flatten_cons, List.length_append, List.length_cons]
      refine ⟨by omega, fun ws hw => ?_⟩
      rcases List.mem_cons.mp hw with rfl | hw
      · omega
      · have := h2 ws hw
        omega
  rw [← p.perm.length_eq]
  exact key p.ne
theorem ways_len (mono : ∀ a z, fit (a ++ [z]) = true → fit a = true) : ∀ (n : Nat) (ns : List Str), ns.length = n → ns.Pairwise ltS → (waysF fit ns).length ≤ fac n
  | 0, ns, h, _ => by
    rw [List.length_eq_zero_iff.mp h]
    exact Nat.le_refl _
  | n + 1, ns, h, asc => by
    obtain ⟨ms, z, rfl⟩ : ∃ ms z, ns = ms ++ [z] := by
      have hne : ns ≠ [] := fun e => by rw [e] at h; cases h
      exact ⟨ns.dropLast, ns.getLast hne, (List.dropLast_concat_getLast hne).symm⟩
    rw [List.length_append, List.length_singleton] at h
    have asc' := (List.pairwise_append.mp asc).1
    have ih := ways_len mono n ms (by omega) asc'
    have al := (ways_all mono ms.length ms rfl asc').2
    rw [ways_snoc]
    have := len_bind (n := n + 1) (l := waysF fit ms) (f := withC fit z) fun way hw => by
      have h1 := withC_len (fit := fit) (z := z) (way := way)
      have h2 := (part_len ((al way).mp hw)).1
      omega
    exact Nat.le_trans this (Nat.mul_le_mul_left _ ih)
theorem fac_le : ∀ {n m : Nat}, n ≤ m → fac n ≤ fac m := by
  intro n m h
  induction h with
  | refl => exact Nat.le_refl _
  | step h ih =>
    rename_i m
    show fac n ≤ (m + 1) * fac m
    exact Nat.le_trans ih (Nat.le_mul_of_pos_left _ (Nat.succ_pos _))
end
end Vf

set_option maxRecDepth 100000
set_option maxHeartbeats 16000000
namespace Vf
open PySem PySem.Spec PyProof.Rows L2
section
variable {P : Program} {w : World} {K : PySem.W.Frag} {mg : Str → Option Value} {base : Heap}
/-- a def by its body, its code object known -/
theorem Fun.okC {x qual : Str} {st : Stmt} {f c : Addr} {fd : FuncData} {N ps : List Str} {k : Nat} {sp : Sp} (F : Fun K x qual st f fd) (hc : fd.code = .ref c) (S : FnScope N ps (defScope st)) (len : ∀ vs H Q E, sp vs H Q E → vs.length = ps.length)
    (hbody : ∀ (A : Around) (outer : List Env) (s : Shared) (H : Hp) (vs : List V) (Q : VK) (E : XK), Room k (A.deeper (envOfC qual (defScope st) s.heap.objs.size f (.ref c))) → sp vs H Q E →
      ∃ t, PSs (cxOf CX0 P w K mg base N qual (defScope st) f (.ref c) A outer s H E).nox (defBody st) t ∧ t { nx := fun _ H' => Q .non H', rt := Q } (start N vs) H) : FnOk P w K mg base CX0 (k + 1) f fd ps sp := by
  obtain ⟨oc, od, kV, doc, pm, an, cdv, ct, osl, rfl, lk, hcd⟩ := F.ex
  obtain rfl : cdv = .ref c := hc
  refine fn_of lk hcd S len fun A outer s H vs Q E hr hsp => ?_
  obtain ⟨t, h, q⟩ := hbody A outer s H vs Q E hr hsp
  exact ⟨t, h.nox, q⟩
end
def scIn (y : Str) (more : List (Str × NameKind)) : Scope := { kind := .function, names := (Str.ofString ".0", .local) :: (y, .local) :: more, isGenerator := false, isCoroutine := false }
theorem blkIn {N : List Str} {sc sc' scope : Scope} {own : List (Str × Nat)} (h : blkC N sc scope own = true) (e : sc'.names = sc.names) : BlkOk N sc' scope own :=
  let b := blkOk_by h
  ⟨b.kind, b.uniq, b.ix, fun y hy hf => by rw [e]; exact b.free y hy hf, b.own⟩
theorem refs_of {α : Type} {H : Hp} {Pr : Addr → α → Hp → Prop} : ∀ (ls : List α) (xs : List V), xs.length = ls.length → (∀ (i : Nat) (a : α) (v : V), ls[i]? = some a → xs[i]? = some v → ∃ t, v = .ref t ∧ Pr t a H) →
    ∃ ps : List (Addr × α), xs = ps.map (fun q => V.ref q.1) ∧ ps.map Prod.snd = ls ∧ ∀ q ∈ ps, Pr q.1 q.2 H
  | [], [], _, _ => ⟨[], rfl, rfl, fun _ h => nomatch h⟩
  | [], _ :: _, h, _ => by simp at h
  | _ :: _, [], h, _ => by simp at h
  | a :: ls, v :: xs, h, hp => by
    obtain ⟨t, rfl, ht⟩ := hp 0 a v rfl rfl
    obtain ⟨ps, e1, e2, e3⟩ := refs_of (Pr := Pr) ls xs (by simpa using h) fun i a u h1 h2 => hp (i + 1) a u (by simpa using h1) (by simpa using h2)
    refine ⟨(t, a) :: ps, by rw [e1]; rfl, by rw [← e2]; rfl, fun q hq => ?_⟩
    rcases List.mem_cons.mp hq with rfl | hq
    · exact ht
    · exact e3 q hq
theorem SqT.ext {K : PySem.W.Frag} {H H' : Hp} {a : Addr} {xs : List V} (h : SqT K H a xs) (s : LamX.ExtN H H') : SqT K H' a xs := by
  rcases h with (h | ⟨o, h⟩) | h
  · exact .inl (.inl (s _ _ h (by intro ps z; cases z)))
  · exact .inl (.inr ⟨o, s _ _ h (by intro ps z; cases z)⟩)
  · exact .inr h
theorem WayAt.ext {K : PySem.W.Frag} {H H' : Hp} {a : Addr} {way : List (List Str)} (h : WayAt K H a way) (s : LamX.ExtN H H') : WayAt K H' a way := by
  obtain ⟨qs, h1, h2, h3⟩ := h
  exact ⟨qs, Vf.SqT.ext h1 s, fun q hq => Vf.SqT.ext (h2 q hq) s, h3⟩
theorem WaysAt.ext {K : PySem.W.Frag} {H H' : Hp} {l : Addr} {bs : List (Addr × List (List Str))} (h : WaysAt K H l bs) (s : LamX.ExtN H H') : WaysAt K H' l bs := ⟨s _ _ h.at_ (by intro ps z; cases z), fun b hb => (h.each b hb).ext s⟩
theorem WaysAt.join {K : PySem.W.Frag} {H : Hp} {l m : Addr} {bs cs : List (Addr × List (List Str))} (h : WaysAt K H l bs) (g : WaysAt K H m cs) : WaysAt K (upd H l (.lst ((bs.map fun b => V.ref b.1) ++ (cs.map fun b => V.ref b.1)))) l (bs ++ cs) :=
  ⟨by rw [upd_same, List.map_append], fun b hb => by
    rcases List.mem_append.mp hb with z | z
    · exact (h.each b z).put h.at_
    · exact (g.each b z).put h.at_⟩
theorem dp_way {K : PySem.W.Frag} {H : Hp} : ∀ {qs : List (Addr × List Str)}, (∀ q ∈ qs, SqT K H q.1 (q.2.map V.str)) → DpAll K H (qs.map fun q => V.ref q.1) ((qs.map Prod.snd).map lnD)
  | [], _ => .nil
  | q :: qs, h => .cons (.tup (h q List.mem_cons_self) (dp_strs _)) (dp_way fun q' hq => h q' (List.mem_cons_of_mem _ hq))
theorem WayAt.dp {K : PySem.W.Frag} {H : Hp} {a : Addr} {way : List (List Str)} (h : WayAt K H a way) : Dp K H (.ref a) (waD way) := by
  obtain ⟨qs, h1, h2, rfl⟩ := h
  exact .tup h1 (dp_way h2)
/-- the table of all_layouts, for its lambda -/
abbrev tabL (Tb : Addr) : List (Addr × Str) := [(Tb, ("all_layouts" : Str) ++ ".<locals>." ++ "<lambda>")]
/-- a list of layouts -/
structure LaysAt (C : Addr) (H : Hp) (l : Addr) (cs : List (Str × Nat)) (r : Nat) (bs : List (Addr × List (List Str))) : Prop where
  at_ : H l = some (.lst (bs.map fun b => V.ref b.1))
  each : ∀ b ∈ bs, ∃ sd nd, LayAt C H b.1 sd nd (srtCs cs) r b.2
theorem LaysAt.same {C : Addr} {H H' : Hp} {l : Addr} {cs : List (Str × Nat)} {r : Nat} {bs : List (Addr × List (List Str))} (h : LaysAt C H l cs r bs) (s : Same H H') : LaysAt C H' l cs r bs :=
  ⟨s _ _ h.at_, fun b hb => let ⟨sd, nd, lay⟩ := h.each b hb; ⟨sd, nd, lay.same s⟩⟩
theorem LayAt.but {C D : Addr} {H H' : Hp} {p sd nd : Addr} {cs : List (Str × Nat)} {r : Nat} {ls : List (List Str)} {xs : List V} (h : LayAt C H p sd nd cs r ls) (hD : H D = some (.lst xs)) (b : But D H H') : LayAt C H' p sd nd cs r ls := by
  obtain ⟨dx, t, qs, h1, h2, h3, h4, h5⟩ := h
  have go : ∀ {a : Addr} {o : HO}, H a = some o → o ≠ .lst xs → H' a = some o := fun e n => b _ _ (ne_of e hD n) e
  exact ⟨dx, t, qs, go h1 (by intro z; cases z), go h2 (by intro z; cases z), go h3 (by intro z; cases z), ⟨go h4.1 (by intro z; cases z), fun q hq => go (h4.2 q hq) (by intro z; cases z)⟩, h5⟩
/-- all ways for these cells, in their order -/
def allW (cs : List (Str × Nat)) (r : Nat) : List (List (List Str)) := sortW (waysF (fitB cs r) (srt (cs.map Prod.fst)))
theorem fit_mono (cs : List (Str × Nat)) (r : Nat) : ∀ a z, fitB cs r (a ++ [z]) = true → fitB cs r a = true := fun a z h => by
  unfold fitB at h ⊢
  rw [total_app] at h
  exact decide_eq_true (Nat.le_trans (Nat.le_add_right _ _) (of_decide_eq_true h))
section
variable {P : Program} {w : World} {K : PySem.W.Frag} {mg : Str → Option Value} {base : Heap}
def sp_all_layouts (C Tb : Addr) : Sp := fun vs H Q _ => ∃ (d : Addr) (cs : List (Str × Nat)) (r : Nat), vs = [.ref d, .int (r : Int)] ∧ H d = some (.dK (cellKv cs)) ∧ GoodCs cs ∧ 1 ≤ r ∧ r ≤ 32 ∧ LamX.Tabs (tabL Tb) H ∧
  ∀ l bs H', LamX.ExtN H H' → LamX.Tabs (tabL Tb) H' → LaysAt C H' l cs r bs → bs.map Prod.snd = allW cs r → Q (.ref l) H'
theorem ok_all_layouts {f C fI c Tb : Addr} {fd fdI : FuncData} (F : Fun K "all_layouts" "all_layouts" s_all_layouts f fd) (hcd : fd.code = .ref c) (TB : LamX.TabB base mg c Tb) (T : Txt0 K mg) (TL : TxtL K mg C) (GC : OkF P w K mg base CX0 "_check_cells" p_check_cells 3 sp_check_cells) (GR : OkF P w K mg base CX0 "_check_room" p_check_room 3 sp_check_room)
    (GW : OkF P w K mg base CX0 "_with_cell" p_with_cell 2 (sp_with_cell K)) (M : Mk K C fI) (GI : FnOk P w K mg base CX0 4 fI fdI p_Layout_init (sp_Layout_init C)) (bI : Binds K fdI p_Layout_init []) :
    FnOk P w K mg base CX0 6 f fd p_all_layouts (sp_all_layouts C Tb) := by
  refine Vf.Fun.okC F hcd sc_all_layouts (fun vs H Q E h => ?_) (fun A outer s H vs Q E hr h => ?_)
  · obtain ⟨d, cs, r, rfl, _⟩ := h
    rfl
  · obtain ⟨d, cs, r, rfl, hd, g, r1, r32, tb, k⟩ := h
    refine ⟨_, pss_cons (ps_expr (pe_fn GC (hr.mono (by decide)) rfl pass0 (pa_cons (pv 0) pa_nil))) (pss_cons (ps_expr (pe_fn GR (hr.mono (by decide)) rfl pass0 (pa_cons (pv 1) pa_nil)))
      (pss_cons (ps_set (i := 2) sc_all_layouts.nd rfl (Or.inl rfl) (pe_lst (pa_cons (pe_tup pa_nil) pa_nil)))
      (pss_cons (ps_for PassesOwn.never rfl (pi_list (pe_callB (call_sortedD rfl) (by rfl) T.sorted (by decide +kernel) (pa_cons (pv 0) pa_nil))) (pg_name (i := 3) sc_all_layouts.nd rfl (Or.inl rfl))
        (pss_cons (ps_set (i := 4) sc_all_layouts.nd rfl (Or.inl rfl) (pe_lst pa_nil))
        (pss_cons (ps_for PassesOwn.never rfl (pi_list (pv 2)) (pg_name (i := 5) sc_all_layouts.nd rfl (Or.inl rfl))
          (pss_one (ps_expr (pe_bm PySem.F.plainAttrs_list PySem.F.slot_list_extend PySem.F.type_list_extend mt_extend (pv 4) (pa_cons (pe_fn GW (hr.mono (by decide)) rfl pass0 (pa_cons (pv 0) (pa_cons (pv 1) (pa_cons (pv 5) (pa_cons (pv 3) pa_nil))))) pa_nil)))))
        (pss_one (ps_set (i := 2) sc_all_layouts.nd rfl (Or.inl rfl) (pv 4))))))
      (pss_cons (ps_set (i := 2) sc_all_layouts.nd rfl (Or.inl rfl) (pe_sortKey (T := tabL Tb) (k := 3) hr rfl T.sorted T.len TB rfl (List.mem_singleton.mpr rfl) (fun p hp _ => by rw [List.mem_singleton.mp hp]; rfl) (pa_cons (pv 2) pa_nil)))
      (pss_one (ps_ret (pe_lc (own := [("lines", 5)]) (g := gName 5) (tt := tYes) rfl sc_all_layouts.nd (pi_list (pv 2)) (blkOk_by (N := n_all_layouts) (sc := defScope s_all_layouts) (by decide +kernel))
          (fun _ _ _ _ _ => pg_name (i := 5) sc_all_layouts.nd rfl (Or.inl rfl)) (fun _ _ _ _ _ => pts_nil)
          (fun _ _ _ _ _ => pe_make M GI hr rfl TL.mgC bI .nil pass0 (pa_cons (pv 0) (pa_cons (pv 1) (pa_cons
            (pe_lc (wi := iTup K (tVar 5)) (own := [("line", 6)]) (g := gName 6) (tt := tYes) rfl sc_all_layouts.nd (pi_tup (pv 5)) (blkIn (N := n_all_layouts) (sc := scIn "lines" [("Layout", .globalImplicit), ("cells", .cell), ("room", .cell)]) (by decide +kernel) (by rfl))
              (fun _ _ _ _ _ => pg_name (i := 6) sc_all_layouts.nd rfl (Or.inl rfl)) (fun _ _ _ _ _ => pts_nil) (fun _ _ _ _ _ => pe_callTy (cr_lst (K := K) rfl) (by rfl) T.list (by decide +kernel) (pa_cons (pv 6) pa_nil))) pa_nil))))))))))), ?_⟩
    have few := g.few
    have fit := fit_mono cs r
    have asc := srt_asc g.nd
    have znd := srt_perm (cs.map Prod.fst)
    have zl : (srt (cs.map Prod.fst)).length = cs.length := by rw [znd.length_eq, List.length_map]
    have part : ∀ i way, way ∈ waysF (fitB cs r) ((srt (cs.map Prod.fst)).take i) → Part (fitB cs r) ((srt (cs.map Prod.fst)).take i) way := fun i way h => ((ways_all fit _ _ rfl (asc.sublist (List.take_sublist _ _))).2 way).mp h
    have lens : ∀ i, (waysF (fitB cs r) ((srt (cs.map Prod.fst)).take i)).length ≤ 720 := fun i => Nat.le_trans (ways_len fit _ _ rfl (asc.sublist (List.take_sublist _ _))) (Nat.le_trans (fac_le (m := 6) (by rw [List.length_take]; omega)) (by decide))
    have tkl : ∀ i, ((srt (cs.map Prod.fst)).take i).length ≤ 6 := fun i => by rw [List.length_take]; omega
    refine ⟨_, rfl, d, cs, rfl, hd, g, fun H1 s1 => ⟨_, rfl, r, rfl, r1, r32, ?_⟩⟩
    refine ⟨Nat.zero_le _, fun e1 he1 => ⟨(by show 1 ≤ sizeLine; decide), fun wl hwl => ?_⟩⟩
    have s2 := s1.trans ((same_new (o := .tup []) he1).trans (same_new (o := .lst [.ref e1]) hwl))
    have w2 : WaysAt K (upd (upd H1 e1 (.tup [])) wl (.lst [.ref e1])) wl [(e1, [])] := ⟨upd_same, fun b hb => by
      rw [List.mem_singleton.mp hb]
      exact ⟨[], SqT.of (same_new hwl _ _ upd_same), (fun q hq => nomatch hq), rfl⟩⟩
    generalize (upd (upd H1 e1 (.tup [])) wl (.lst [.ref e1])) = H2 at s2 w2 ⊢
    refine ⟨_, rfl, d, cellKv cs, cs.map Prod.fst, rfl, .inl (s2 _ _ hd), cell_keys cs, by rw [List.length_map]; omega, fun zs q1 hz1 hz2 hq1 => ?_⟩
    obtain rfl : zs = srt (cs.map Prod.fst) := srt_of hz1 hz2
    have s3 := s2.trans (same_new (o := .lst ((srt (cs.map Prod.fst)).map V.str)) hq1)
    have w3 := w2.same (same_new (o := .lst ((srt (cs.map Prod.fst)).map V.str)) hq1)
    have e3 : (upd H2 q1 (.lst ((srt (cs.map Prod.fst)).map V.str))) q1 = some (.lst ((srt (cs.map Prod.fst)).map V.str)) := upd_same
    generalize (upd H2 q1 (.lst ((srt (cs.map Prod.fst)).map V.str))) = H3 at s3 w3 e3 ⊢
    have wz : Walk (Itl K q1) (srt (cs.map Prod.fst)).length (fun H => SqL K H q1 ((srt (cs.map Prod.fst)).map V.str)) (YAt ((srt (cs.map Prod.fst)).map V.str)) := (walk_list (K := K) (a := q1) (xs := (srt (cs.map Prod.fst)).map V.str) |> fun z => by rw [List.length_map] at z; exact z)
    refine ⟨q1, rfl, ⟨_, SqL.of e3⟩, for_it wz (fun i σ H' => ∃ v3 v4 v5 v6 wl bs, σ = [some (.ref d), some (.int (r : Int)), some (.ref wl), v3, v4, v5, v6] ∧ Same H3 H' ∧ WaysAt K H' wl bs ∧ bs.map Prod.snd = waysF (fitB cs r) ((srt (cs.map Prod.fst)).take i))
      ⟨_, _, _, _, wl, [(e1, [])], rfl, Same.refl _, w3, rfl⟩ (fun i σ H' _ ⟨_, _, _, _, _, _, _, s, _⟩ => SqL.of (s _ _ e3)) ?_ ?_⟩
    · rintro i x σ H4 H5 hi ⟨v3, v4, v5, v6, wl, bs, rfl, s4, w4, e4⟩ ⟨rfl, hx⟩
      have hj : (srt (cs.map Prod.fst))[i]? = some (srt (cs.map Prod.fst))[i] := List.getElem?_eq_getElem hi
      generalize (srt (cs.map Prod.fst))[i] = z at hj
      rw [List.getElem?_map, hj] at hx
      obtain rfl : V.str z = x := Option.some.inj hx
      have hzin := znd.mem_iff.mp (List.mem_of_getElem? hj)
      have tk : (srt (cs.map Prod.fst)).take (i + 1) = (srt (cs.map Prod.fst)).take i ++ [z] := by rw [List.take_add_one, hj]; rfl
      refine ⟨Nat.zero_le _, fun ll hll => ?_⟩
      have s5 := s4.trans (same_new (o := .lst []) hll)
      have w5 := w4.same (same_new (o := .lst []) hll)
      have n5 : WaysAt K (upd H5 ll (.lst [])) ll [] := ⟨upd_same, fun b hb => nomatch hb⟩
      have lb : bs.length ≤ 720 := by
        have := lens i
        rw [← e4, List.length_map] at this
        exact this
      have wb : Walk (Itl K wl) bs.length (fun H => SqL K H wl (bs.map fun b => V.ref b.1)) (YAt (bs.map fun b => V.ref b.1)) := (walk_list (K := K) (a := wl) (xs := bs.map fun b => V.ref b.1) |> fun z => by rw [List.length_map] at z; exact z)
      refine ⟨_, rfl, wl, rfl, ⟨_, SqL.of w5.at_⟩, for_it wb (fun j σ H' => ∃ v5 v6 bs2, σ = [some (.ref d), some (.int (r : Int)), some (.ref wl), some (.str z), some (.ref ll), v5, v6] ∧ Same H5 H' ∧ WaysAt K H' ll bs2 ∧ bs2.map Prod.snd = ((bs.take j).map Prod.snd).flatMap (withC (fitB cs r) z))
        ⟨_, _, [], rfl, same_new hll, n5, rfl⟩ (fun j σ H' _ ⟨_, _, _, _, s, _⟩ => SqL.of (s _ _ w4.at_)) ?_ ?_⟩
      · rintro j y σ H6 H7 hjb ⟨v5', v6', bs2, rfl, s6, n6, e6⟩ ⟨rfl, hy⟩
        have hb : bs[j]? = some bs[j] := List.getElem?_eq_getElem hjb
        generalize bs[j] = b at hb
        have hbm := List.mem_of_getElem? hb
        rw [List.getElem?_map, hb] at hy
        obtain rfl : V.ref b.1 = y := Option.some.inj hy
        have pb : Part (fitB cs r) ((srt (cs.map Prod.fst)).take i) b.2 := part i b.2 (by rw [← e4]; exact List.mem_map_of_mem hbm)
        obtain ⟨pl1, pl2⟩ := part_len pb
        have t6 := tkl i
        have tk2 : ((bs.take (j + 1)).map Prod.snd).flatMap (withC (fitB cs r) z) = ((bs.take j).map Prod.snd).flatMap (withC (fitB cs r) z) ++ withC (fitB cs r) z b.2 := by
          rw [List.take_add_one, hb, List.map_append, List.flatMap_append]
          simp
        have lb2 : bs2.length ≤ 7 * 720 := by
          have h1 := len_bind (n := 7) (l := (bs.take j).map Prod.snd) (f := withC (fitB cs r) z) fun way hw => by
            obtain ⟨b', hb', rfl⟩ := List.mem_map.mp hw
            have pb' := (part_len (part i b'.2 (by rw [← e4]; exact List.mem_map_of_mem (List.mem_of_mem_take hb')))).1
            have := withC_len (fit := fitB cs r) (z := z) (way := b'.2)
            omega
          rw [← e6, List.length_map, List.length_map, List.length_take] at h1
          omega
        refine ⟨_, rfl, .inl ⟨rfl, _, SqL.of n6.at_⟩, _, rfl, _, rfl, _, rfl, _, rfl, d, b.1, cs, r, b.2, z, rfl, s6 _ _ (s4 _ _ (s3 _ _ hd)), (w4.each b hbm).same s6, hzin, fun ws hw y hy => ?_, by omega, fun ws hw => by have := pl2 ws hw; omega, fun D bsD H8 s8 hD wD eD => ?_⟩
        · exact znd.mem_iff.mp (List.mem_of_mem_take (pb.perm.mem_iff.mp (List.mem_flatten.mpr ⟨ws, hw, hy⟩)))
        have n8 := n6.same s8
        have lD : bsD.length ≤ 7 := by
          have := withC_len (fit := fitB cs r) (z := z) (way := b.2)
          rw [← eD, List.length_map] at this
          omega
        refine ⟨ll, D, _, _, rfl, rfl, n8.at_, wD.at_, by rw [List.length_map, List.length_map, sizeLine_eq]; omega, ?_⟩
        refine ⟨_, _, bs2 ++ bsD, rfl, same_at (s6.trans s8) hll, n8.join wD, ?_⟩
        rw [List.map_append, e6, eD, tk2]
      · rintro σ H6 ⟨v5', v6', bs2, rfl, s6, n6, e6⟩
        refine ⟨_, rfl, ⟨_, _, _, _, ll, bs2, rfl, s4.trans s6, n6, ?_⟩⟩
        rw [tk, ways_snoc, e6, List.take_length, e4]
    · rintro σ H4 ⟨v3, v4, v5, v6, wl, bs, rfl, s4, w4, e4⟩
      rw [List.take_of_length_le (Nat.le_refl _)] at e4
      have lb : bs.length ≤ 720 := by
        have := lens (srt (cs.map Prod.fst)).length
        rw [List.take_of_length_le (Nat.le_refl _), ← e4, List.length_map] at this
        exact this
      have pt : ∀ b ∈ bs, Part (fitB cs r) (srt (cs.map Prod.fst)) b.2 := fun b hb => by
        have := part (srt (cs.map Prod.fst)).length b.2
        rw [List.take_of_length_le (Nat.le_refl _)] at this
        exact this (by rw [← e4]; exact List.mem_map_of_mem hb)
      have s04 := s3.trans s4
      have tb4 := tb.ext s04
      refine ⟨_, rfl, tb4, fun H5 eN T5 => ⟨wl, bs.map (fun b => (V.ref b.1, b.2.map lnD)), rfl, ?_, by rw [List.length_map]; omega, fun q hq => ?_, fun x hx y hy => ?_, fun S hS => ?_⟩⟩
      · rw [List.map_map]
        exact SqL.of (w4.ext eN).at_
      · obtain ⟨b, hb, rfl⟩ := List.mem_map.mp hq
        refine ⟨((w4.ext eN).each b hb).dp, flat_wa _, ?_, ?_⟩
        · have h1 := depthAll_ln b.2
          simp only [wayKey, PyData.depth, PyData.depthAll]
          omega
        · have := (part_len (pt b hb)).1
          rw [List.length_map]
          omega
      · obtain ⟨q, hq, rfl⟩ := List.mem_map.mp hx
        obtain ⟨q', hq', rfl⟩ := List.mem_map.mp hy
        obtain ⟨b, _, rfl⟩ := List.mem_map.mp hq
        obtain ⟨b', _, rfl⟩ := List.mem_map.mp hq'
        simp only [wayKey, PySem.W.alike, PySem.W.alikeAll, alike_wa, Bool.and_self]
      · have w5 := w4.ext eN
        have hd5 : H5 d = some (.dK (cellKv cs)) := eN _ _ (s04 _ _ hd) (by intro ps z; cases z)
        have em : ((bs.map (fun b => (V.ref b.1, b.2.map lnD))).mergeSort (PySem.W.dataLe false wayKey)) = (bs.mergeSort fun a b => PySem.W.dataLe false keyW a.2 b.2).map (fun b => (V.ref b.1, b.2.map lnD)) := by
          refine (List.map_mergeSort (f := fun b : Addr × List (List Str) => (V.ref b.1, b.2.map lnD)) fun a _ b _ => ?_).symm
          rw [PySem.W.dataLe_eq, PySem.W.dataLe_eq]
          simp only [wayKey, keyW, waD, List.length_map]
        have ew : (bs.mergeSort fun a b => PySem.W.dataLe false keyW a.2 b.2).map Prod.snd = allW cs r := by
          unfold allW sortW
          rw [← e4]
          exact List.map_mergeSort (f := Prod.snd) fun _ _ _ _ => rfl
        have ep := List.mergeSort_perm bs fun a b => PySem.W.dataLe false keyW a.2 b.2
        rw [em, List.map_map]
        generalize (bs.mergeSort fun a b => PySem.W.dataLe false keyW a.2 b.2) = rs at ew ep ⊢
        have s6 := same_new (o := .lst (rs.map (Prod.fst ∘ fun b => (V.ref b.1, b.2.map lnD)))) hS
        have e6 : (upd H5 S (.lst (rs.map (Prod.fst ∘ fun b => (V.ref b.1, b.2.map lnD))))) S = some (.lst (rs.map fun b => V.ref b.1)) := upd_same
        generalize (upd H5 S (.lst (rs.map (Prod.fst ∘ fun b => (V.ref b.1, b.2.map lnD))))) = H6 at s6 e6 ⊢
        have lr : rs.length ≤ 720 := by rw [ep.length_eq]; exact lb
        have ws : Walk (Itl K S) rs.length (fun H => SqL K H S (rs.map fun b => V.ref b.1)) (YAt (rs.map fun b => V.ref b.1)) := (walk_list (K := K) (a := S) (xs := rs.map fun b => V.ref b.1) |> fun z => by rw [List.length_map] at z; exact z)
        refine ⟨_, rfl, S, rfl, ⟨_, SqL.of e6⟩, fun D hD => lc_ad rs ws hD (fun b v H => ∃ p, v = .ref p ∧ ∃ sd nd, LayAt C H p sd nd (srtCs cs) r b.2) (by omega) (fun H7 s7 => SqL.of (s7 _ _ e6)) ?_ ?_⟩
        · rintro i b x H7 H8 hb s7 ⟨acc, hacc⟩ ⟨rfl, hx⟩ R hR
          rw [List.getElem?_map, hb] at hx
          obtain rfl : V.ref b.1 = x := Option.some.inj hx
          have hbm := ep.mem_iff.mp (List.mem_of_getElem? hb)
          have s57 := s6.trans s7
          obtain ⟨qs, h1, h2, h3⟩ := ((w5.each b hbm).same s57).ex
          have pb := pt b hbm
          obtain ⟨pl1, pl2⟩ := part_len pb
          have lq : qs.length ≤ 6 := by
            rw [← h3, List.length_map] at pl1
            omega
          have wq : Walk (Itt K b.1) qs.length (fun H => SqT K H b.1 (qs.map fun q => V.ref q.1)) (YAt (qs.map fun q => V.ref q.1)) := (walk_tup (K := K) (a := b.1) (xs := qs.map fun q => V.ref q.1) |> fun z => by rw [List.length_map] at z; exact z)
          refine ⟨rfl, _, rfl, _, rfl, _, rfl, b.1, rfl, ⟨_, h1⟩, fun L hL => lc_ad qs wq hL (fun q v H => ∃ t, v = .ref t ∧ H t = some (.lst (q.2.map V.str))) (by omega) (fun H9 s9 => Vf.SqT.same h1 s9) ?_ ?_⟩
          · rintro j q y H9 H10 hq s9 ⟨acc2, hacc2⟩ ⟨rfl, hy⟩ R2 hR2
            rw [List.getElem?_map, hq] at hy
            obtain rfl : V.ref q.1 = y := Option.some.inj hy
            refine ⟨rfl, _, rfl, q.1, _, rfl, .inr (Vf.SqT.same (h2 q (List.mem_of_getElem? hq)) s9), fun t ht => ?_⟩
            exact hR2 (.ref t) _ (same_new ht) fun H11 b11 => ⟨t, rfl, b11 t _ (ne_of_none hacc2 ht).symm upd_same⟩
          · intro H9 xs s9 hL9 hlen hpr
            obtain ⟨ps, rfl, eps, hps⟩ := refs_of (Pr := fun t (q : Addr × List Str) H => H t = some (.lst (q.2.map V.str))) qs xs hlen hpr
            refine fun x dx hx hdx hne => ?_
            have s0 : Same H9 (upd (upd H9 dx (.own x)) x (.ins C dx [])) := same_upd (same_new hdx) hx
            have s19 := s57.trans s9
            have eway : (ps.map fun p => (p.1, p.2.2)).map Prod.snd = b.2 := by
              rw [← h3, ← eps, List.map_map, List.map_map]
              rfl
            have il : InLines H9 L cs r (ps.map fun p => (p.1, p.2.2)) := by
              refine ⟨by rw [hL9, List.map_map]; rfl, fun p hp => ?_, ?_⟩
              · obtain ⟨p', hp', rfl⟩ := List.mem_map.mp hp
                have hin : p'.2.2 ∈ b.2 := by
                  rw [← eway]
                  exact List.mem_map.mpr ⟨_, hp, rfl⟩
                exact ⟨hps p' hp', pb.ne _ hin, of_decide_eq_true (pb.fits _ hin)⟩
              · have e : (ps.map fun p => (p.1, p.2.2)).flatMap Prod.snd = b.2.flatten := by
                  rw [← eway]
                  exact List.flatMap_def
                rw [e]
                exact pb.perm.trans znd
            have elin : linesOf (ps.map fun p => (p.1, p.2.2)) = b.2 := by
              unfold linesOf
              have e : ((ps.map fun p => (p.1, p.2.2)).map fun p => srt p.2) = b.2.map srt := by
                rw [← eway, List.map_map, List.map_map, List.map_map]
                rfl
              rw [e, (part_ord pb).1, (part_ord pb).2]
            refine ⟨x, dx, d, L, cs, r, _, rfl, upd_same, s0 _ _ (s19 _ _ hd5), g, r1, r32, il.same s0, fun H' sd nd bt hsd hnd hsn lay => ⟨rfl, ?_⟩⟩
            rw [elin] at lay
            have s9' : Same H9 H' := bt.same s0 hx
            exact hR (.ref x) H' (s9.trans s9') fun H8' b8 => ⟨x, rfl, sd, nd, lay.but ((s9.trans s9') _ _ hacc) b8⟩
        · intro H7 xs s7 hL hlen hpr
          obtain ⟨ps, rfl, eps, hps⟩ := refs_of (Pr := fun p (b : Addr × List (List Str)) H => ∃ sd nd, LayAt C H p sd nd (srtCs cs) r b.2) rs xs hlen hpr
          have s57 := s6.trans s7
          refine k D (ps.map fun p => (p.1, p.2.2)) H7 ((LamX.ExtN.of s04).trans (eN.trans (LamX.ExtN.of s57))) (T5.ext s57) ⟨by rw [hL, List.map_map]; rfl, fun b hb => ?_⟩ ?_
          · obtain ⟨p', hp', rfl⟩ := List.mem_map.mp hb
            exact hps p' hp'
          · rw [← ew, ← eps, List.map_map, List.map_map]
            rfl
end
end Vf

set_option maxRecDepth 100000
set_option maxHeartbeats 4000000
namespace Vf
open PySem PySem.Spec PyProof.Rows L2
/-- two cells of one line -/
def Tog (ls : List (List Str)) (x y : Str) : Prop := ∃ ws ∈ ls, x ∈ ws ∧ y ∈ ws
theorem line_uniq {x : Str} : ∀ {ls : List (List Str)}, ls.flatten.Nodup → ∀ {a b : List Str}, a ∈ ls → b ∈ ls → x ∈ a → x ∈ b → a = b
  | [], _, _, _, h, _, _, _ => nomatch h
  | u :: ls, nd, a, b, ha, hb, xa, xb => by
    rw [List.flatten_cons, List.nodup_append] at nd
    rcases List.mem_cons.mp ha with ea | ma
    · rcases List.mem_cons.mp hb with eb | mb
      · rw [ea, eb]
      · exact absurd rfl (nd.2.2 x (ea ▸ xa) x (List.mem_flatten.mpr ⟨b, mb, xb⟩))
    · rcases List.mem_cons.mp hb with eb | mb
      · exact absurd rfl (nd.2.2 x (eb ▸ xb) x (List.mem_flatten.mpr ⟨a, ma, xa⟩))
      · exact line_uniq nd.2.1 ma mb xa xb
theorem LsOk.nd {cs : List (Str × Nat)} {r : Nat} {ls : List (List Str)} (o : LsOk cs r ls) (g : GoodCs cs) : ls.flatten.Nodup := o.perm.nodup_iff.mpr g.nd
theorem LsOk.srt {cs : List (Str × Nat)} {r : Nat} {ls : List (List Str)} (o : LsOk cs r ls) : ∀ ws ∈ ls, Vf.srt ws = ws := fun ws hw => by
  have h := hw
  rw [← o.ord] at h
  obtain ⟨u, _, rfl⟩ := List.mem_map.mp ((sortL_perm _).mem_iff.mp h)
  exact srt_srt u
theorem LsOk.sort {cs : List (Str × Nat)} {r : Nat} {ls : List (List Str)} (o : LsOk cs r ls) : sortL ls = ls := by
  have e : ls.map Vf.srt = ls := by
    conv => rhs; rw [← List.map_id ls]
    exact List.map_congr_left fun ws hw => o.srt ws hw
  have := o.ord
  rwa [e] at this
theorem LsOk.line {cs : List (Str × Nat)} {r : Nat} {ls : List (List Str)} (o : LsOk cs r ls) {z : Str} (hz : z ∈ cs.map Prod.fst) : ∃ ws ∈ ls, z ∈ ws := List.mem_flatten.mp (o.perm.mem_iff.mpr hz)
theorem tog_sub {cs : List (Str × Nat)} {r : Nat} {la lb : List (List Str)} (g : GoodCs cs) (a : LsOk cs r la) (b : LsOk cs r lb) (h : ∀ x y, Tog la x y ↔ Tog lb x y) : ∀ ws ∈ la, ws ∈ lb := fun ws hw => by
  obtain ⟨x, hx⟩ := List.exists_mem_of_ne_nil _ (a.ne ws hw)
  obtain ⟨w2, hw2, hx2, _⟩ := (h x x).mp ⟨ws, hw, hx, hx⟩
  have e : ws.Perm w2 := by
    refine (List.perm_ext_iff_of_nodup ((a.nd g).sublist (List.sublist_flatten_of_mem hw)) ((b.nd g).sublist (List.sublist_flatten_of_mem hw2))).mpr fun y => ⟨fun hy => ?_, fun hy => ?_⟩
    · obtain ⟨w3, hw3, hx3, hy3⟩ := (h x y).mp ⟨ws, hw, hx, hy⟩
      rwa [line_uniq (b.nd g) hw2 hw3 hx2 hx3]
    · obtain ⟨w3, hw3, hx3, hy3⟩ := (h x y).mpr ⟨w2, hw2, hx2, hy⟩
      rwa [line_uniq (a.nd g) hw hw3 hx hx3]
  have := srt_same e
  rw [a.srt ws hw, b.srt w2 hw2] at this
  rwa [this]
theorem LsOk.ext {cs : List (Str × Nat)} {r : Nat} {la lb : List (List Str)} (g : GoodCs cs) (a : LsOk cs r la) (b : LsOk cs r lb) (h : ∀ x y, Tog la x y ↔ Tog lb x y) : la = lb := by
  have p : la.Perm lb := (List.perm_ext_iff_of_nodup (nodup_lines (a.nd g) a.ne) (nodup_lines (b.nd g) b.ne)).mpr fun ws => ⟨tog_sub g a b h ws, tog_sub g b a (fun x y => (h x y).symm) ws⟩
  have := sortL_same p
  rwa [a.sort, b.sort] at this
theorem ok_of {cs : List (Str × Nat)} {r : Nat} {m : List (List Str)} (p : m.flatten.Perm (cs.map Prod.fst)) (e : ∀ ws ∈ m, ws ≠ [] ∧ total cs ws ≤ r) : LsOk cs r (sortL (m.map srt)) := by
  have q : ∀ m : List (List Str), (m.map srt).flatten.Perm m.flatten := fun m => by
    induction m with
    | nil => exact .nil
    | cons a m ih => exact (srt_perm a).append ih
  have inn : ∀ ws ∈ sortL (m.map srt), ∃ u ∈ m, srt u = ws := fun ws hw => List.mem_map.mp ((sortL_perm _).mem_iff.mp hw)
  refine ⟨(sortL_perm _).flatten.trans ((q m).trans p), fun ws hw => ?_, fun ws hw => ?_, ?_⟩
  · obtain ⟨u, hu, rfl⟩ := inn ws hw
    exact srt_ne (e u hu).1
  · obtain ⟨u, hu, rfl⟩ := inn ws hw
    rw [total_same (srt_perm u)]
    exact (e u hu).2
  · rw [sortL_srt fun ws hw => by obtain ⟨u, _, rfl⟩ := List.mem_map.mp hw; exact srt_srt u]
    exact sortL_same (sortL_perm _)
theorem tog_sort {m : List (List Str)} {x y : Str} : Tog (sortL (m.map srt)) x y ↔ Tog m x y := by
  constructor
  · rintro ⟨ws, hw, hx, hy⟩
    obtain ⟨u, hu, rfl⟩ := List.mem_map.mp ((sortL_perm _).mem_iff.mp hw)
    exact ⟨u, hu, (srt_perm u).mem_iff.mp hx, (srt_perm u).mem_iff.mp hy⟩
  · rintro ⟨u, hu, hx, hy⟩
    exact ⟨srt u, (sortL_perm _).mem_iff.mpr (List.mem_map_of_mem hu), (srt_perm u).mem_iff.mpr hx, (srt_perm u).mem_iff.mpr hy⟩
theorem move_ok {cs : List (Str × Nat)} {r : Nat} {ls m : List (List Str)} {z : Str} {i : Nat} (g : GoodCs cs) (o : LsOk cs r ls) (hz : z ∈ cs.map Prod.fst) (hi : i ≤ ls.length) (h : moveL cs r ls z i = some m) : LsOk cs r (sortL (m.map srt)) := by
  obtain ⟨ht, e⟩ := move_eq o g h
  obtain ⟨p, q⟩ := put_good o g hz hi ht
  rw [← e]
  exact ok_of p q
theorem mem_drop {z x : Str} {l : List Str} : x ∈ l.filter (fun y => decide (y ≠ z)) ↔ x ∈ l ∧ x ≠ z := by
  rw [List.mem_filter, decide_eq_true_eq]
/-- who stands in one line behind a move -/
theorem move_tog {cs : List (Str × Nat)} {r : Nat} {ls m : List (List Str)} {z : Str} {i : Nat} (g : GoodCs cs) (o : LsOk cs r ls) (hi : i ≤ ls.length) (h : moveL cs r ls z i = some m) {x y : Str} :
    Tog (sortL (m.map srt)) x y ↔ ((x ∈ ls.getD i [] ∨ x = z) ∧ (y ∈ ls.getD i [] ∨ y = z)) ∨ (x ≠ z ∧ y ≠ z ∧ Tog ls x y) := by
  rw [← (move_eq o g h).2, tog_sort]
  have hl : i < (dropZ z ls ++ [[]]).length := by
    unfold dropZ
    rw [List.length_append, List.length_map]
    show i < ls.length + 1
    omega
  have hn : (dropZ z ls ++ [[]]).getD i [] ++ [z] ∈ putAt (dropZ z ls ++ [[]]) i z := List.mem_of_getElem? (i := i) (by unfold putAt; rw [List.getElem?_set_self hl])
  have inl : ∀ x, x ∈ (dropZ z ls ++ [[]]).getD i [] ++ [z] ↔ (x ∈ ls.getD i [] ∨ x = z) := fun x => by
    rw [drop_get, List.mem_append, mem_drop, List.mem_singleton]
    by_cases e : x = z
    · simp [e]
    · simp [e]
  constructor
  · rintro ⟨ws, hw, hx, hy⟩
    have hw := (List.mem_filter.mp hw).1
    rcases List.mem_or_eq_of_mem_set hw with hw | rfl
    · rcases List.mem_append.mp hw with hw | hw
      · obtain ⟨u, hu, rfl⟩ := List.mem_map.mp hw
        exact .inr ⟨(mem_drop.mp hx).2, (mem_drop.mp hy).2, u, hu, (mem_drop.mp hx).1, (mem_drop.mp hy).1⟩
      · rw [List.mem_singleton.mp hw] at hx
        cases hx
    · exact .inl ⟨(inl x).mp hx, (inl y).mp hy⟩
  · rintro (⟨hx, hy⟩ | ⟨hx, hy, u, hu, xu, yu⟩)
    · exact ⟨_, List.mem_filter.mpr ⟨hn, decide_eq_true (by simp)⟩, (inl x).mpr hx, (inl y).mpr hy⟩
    · obtain ⟨j, hj⟩ := List.mem_iff_getElem?.mp hu
      by_cases e : j = i
      · subst e
        have eu : ls.getD j [] = u := by rw [List.getD_eq_getElem?_getD, hj]; rfl
        exact ⟨_, List.mem_filter.mpr ⟨hn, decide_eq_true (by simp)⟩, (inl x).mpr (.inl (eu ▸ xu)), (inl y).mpr (.inl (eu ▸ yu))⟩
      · refine ⟨u.filter fun y => decide (y ≠ z), List.mem_filter.mpr ⟨List.mem_of_getElem? (i := j) ?_, decide_eq_true (List.ne_nil_of_mem (mem_drop.mpr ⟨xu, hx⟩))⟩, mem_drop.mpr ⟨xu, hx⟩, mem_drop.mpr ⟨yu, hy⟩⟩
        have jl : j < (dropZ z ls).length := by
          unfold dropZ
          rw [List.length_map]
          exact (List.getElem?_eq_some_iff.mp hj).1
        unfold putAt
        rw [List.getElem?_set_ne (Ne.symm e), List.getElem?_append_left jl]
        unfold dropZ
        rw [List.getElem?_map, hj]
        rfl
/-- the move back -/
theorem move_back {cs : List (Str × Nat)} {r : Nat} {ls m ws : List (List Str)} {l : List Str} {z : Str} {i j : Nat} (g : GoodCs cs) (o : LsOk cs r ls) (hz : z ∈ cs.map Prod.fst) (hi : i ≤ ls.length) (h : moveL cs r ls z i = some m) (hl : l ∈ ls) (hzl : z ∈ l)
    (hm : ws = sortL (m.map srt)) (hj : j ≤ ws.length) (ht : ∀ y, y ≠ z → (y ∈ ws.getD j [] ↔ y ∈ l)) : ∃ m', moveL cs r ws z j = some m' ∧ sortL (m'.map srt) = ls := by
  have o2 : LsOk cs r ws := hm ▸ move_ok g o hz hi h
  have nl : l.Nodup := (o.nd g).sublist (List.sublist_flatten_of_mem hl)
  have tl : total cs ((dropZ z ws ++ [[]]).getD j [] ++ [z]) ≤ r := by
    rw [drop_get]
    have nw : (ws.getD j []).Nodup := by
      rw [List.getD_eq_getElem?_getD]
      cases e : ws[j]? with
      | none => exact List.nodup_nil
      | some u => exact (o2.nd g).sublist (List.sublist_flatten_of_mem (List.mem_of_getElem? e))
    have p : ((ws.getD j []).filter (fun y => decide (y ≠ z)) ++ [z]).Perm l := by
      refine (List.perm_ext_iff_of_nodup ?_ nl).mpr fun y => ?_
      · rw [List.nodup_append]
        exact ⟨nw.sublist List.filter_sublist, by simp, fun a ha b hb e => (mem_drop.mp ha).2 (e.trans (List.mem_singleton.mp hb))⟩
      · rw [List.mem_append, mem_drop, List.mem_singleton]
        by_cases e : y = z
        · subst e
          exact ⟨fun _ => hzl, fun _ => .inr rfl⟩
        · rw [ht y e]
          exact ⟨fun q => q.elim (fun q => q.1) (fun q => absurd q e), fun q => .inl ⟨q, e⟩⟩
    rw [total_same p]
    exact o.tot l hl
  obtain ⟨m', hm'⟩ : ∃ m', moveL cs r ws z j = some m' := by
    unfold moveL
    by_cases q : z ∈ ws.getD j []
    · exact ⟨_, if_pos q⟩
    · rw [if_neg q]
      exact ⟨_, if_pos tl⟩
  refine ⟨m', hm', LsOk.ext g (move_ok g o2 hz hj hm') o fun x y => ?_⟩
  rw [move_tog g o2 hj hm']
  have inl : ∀ x, (x ∈ ws.getD j [] ∨ x = z) ↔ x ∈ l := fun x => by
    by_cases e : x = z
    · subst e
      exact ⟨fun _ => hzl, fun _ => .inr rfl⟩
    · rw [ht x e]
      exact ⟨fun q => q.resolve_right e, .inl⟩
  rw [inl x, inl y, hm, move_tog g o hi h]
  constructor
  · rintro (⟨hx, hy⟩ | ⟨hx, hy, (⟨tx, ty⟩ | ⟨_, _, t⟩)⟩)
    · exact ⟨l, hl, hx, hy⟩
    · obtain ⟨u, hu, xu⟩ := get_in (tx.resolve_right hx)
      have e : ls.getD i [] = u := by rw [List.getD_eq_getElem?_getD, hu]; rfl
      exact ⟨u, List.mem_of_getElem? hu, xu, e ▸ ty.resolve_right hy⟩
    · exact t
  · rintro ⟨u, hu, xu, yu⟩
    by_cases hx : x = z
    · subst hx
      rw [line_uniq (o.nd g) hu hl xu hzl] at yu
      exact .inl ⟨hzl, yu⟩
    · by_cases hy : y = z
      · subst hy
        rw [line_uniq (o.nd g) hu hl yu hzl] at xu
        exact .inl ⟨xu, hzl⟩
      · exact .inr ⟨hx, hy, .inr ⟨hx, hy, u, hu, xu, yu⟩⟩
end Vf

set_option maxRecDepth 100000
set_option maxHeartbeats 4000000
namespace Vf
open PySem PySem.Spec PyProof.Rows L2
/-- what stands beside a cell, told from another one of its line -/
theorem line_back {cs : List (Str × Nat)} {r : Nat} {ls m ws : List (List Str)} {l u : List Str} {z x0 : Str} {i j : Nat} (g : GoodCs cs) (o : LsOk cs r ls) (hz : z ∈ cs.map Prod.fst) (hi : i ≤ ls.length) (h : moveL cs r ls z i = some m) (hl : l ∈ ls)
    (hm : ws = sortL (m.map srt)) (hx : x0 ∈ l) (hxz : x0 ≠ z) (hu : ws[j]? = some u) (hxu : x0 ∈ u) : ∀ y, y ≠ z → (y ∈ ws.getD j [] ↔ y ∈ l) := fun y hy => by
  have o2 : LsOk cs r ws := hm ▸ move_ok g o hz hi h
  have e : ws.getD j [] = u := by rw [List.getD_eq_getElem?_getD, hu]; rfl
  have hum := List.mem_of_getElem? hu
  have t : Tog ws x0 y ↔ Tog ls x0 y := by
    rw [hm, move_tog g o hi h]
    constructor
    · rintro (⟨tx, ty⟩ | ⟨_, _, t⟩)
      · obtain ⟨v, hv, xv⟩ := get_in (tx.resolve_right hxz)
        have ev : ls.getD i [] = v := by rw [List.getD_eq_getElem?_getD, hv]; rfl
        exact ⟨v, List.mem_of_getElem? hv, xv, ev ▸ ty.resolve_right hy⟩
      · exact t
    · exact fun t => .inr ⟨hxz, hy, t⟩
  rw [e]
  constructor
  · intro yu
    obtain ⟨v, hv, xv, yv⟩ := t.mp ⟨u, hum, hxu, yu⟩
    rwa [line_uniq (o.nd g) hl hv hx xv]
  · intro yl
    obtain ⟨v, hv, xv, yv⟩ := t.mpr ⟨l, hl, hx, yl⟩
    rwa [line_uniq (o2.nd g) hum hv hxu xv]
/-- one move -/
def Edge (cs : List (Str × Nat)) (r : Nat) (a b : List (List Str)) : Prop := ∃ z ∈ cs.map Prod.fst, ∃ i, i ≤ a.length ∧ ∃ m, moveL cs r a z i = some m ∧ sortL (m.map srt) = b
theorem Edge.ok {cs : List (Str × Nat)} {r : Nat} {a b : List (List Str)} (g : GoodCs cs) (o : LsOk cs r a) (h : Edge cs r a b) : LsOk cs r b := by
  obtain ⟨z, hz, i, hi, m, hm, rfl⟩ := h
  exact move_ok g o hz hi hm
theorem Edge.back {cs : List (Str × Nat)} {r : Nat} {a b : List (List Str)} (g : GoodCs cs) (o : LsOk cs r a) (h : Edge cs r a b) : Edge cs r b a := by
  have o2 := h.ok g o
  obtain ⟨z, hz, i, hi, m, hm, e⟩ := h
  obtain ⟨l, hl, hzl⟩ := o.line hz
  cases q : l.filter (fun y => decide (y ≠ z)) with
  | nil =>
    refine ⟨z, hz, b.length, Nat.le_refl _, move_back g o hz hi hm hl hzl e.symm (Nat.le_refl _) fun y hy => ?_⟩
    have gd : b.getD b.length [] = [] := by rw [List.getD_eq_getElem?_getD, List.getElem?_eq_none (Nat.le_refl _)]; rfl
    rw [gd]
    refine ⟨fun q => (nomatch q), fun hy2 => ?_⟩
    have := mem_drop.mpr ⟨hy2, hy⟩
    rw [q] at this
    cases this
  | cons x0 t =>
    have hx := mem_drop.mp (q ▸ List.mem_cons_self : x0 ∈ l.filter (fun y => decide (y ≠ z)))
    have hxn : x0 ∈ cs.map Prod.fst := o.perm.mem_iff.mp (List.mem_flatten.mpr ⟨l, hl, hx.1⟩)
    obtain ⟨u, hu, hxu⟩ := o2.line hxn
    obtain ⟨j, hj⟩ := List.mem_iff_getElem?.mp hu
    exact ⟨z, hz, j, Nat.le_of_lt (List.getElem?_eq_some_iff.mp hj).1, move_back g o hz hi hm hl hzl e.symm (Nat.le_of_lt (List.getElem?_eq_some_iff.mp hj).1) (line_back g o hz hi hm hl e.symm hx.1 hx.2 hj hxu)⟩
theorem tog_self {cs : List (Str × Nat)} {r : Nat} {ls : List (List Str)} (o : LsOk cs r ls) {x : Str} : Tog ls x x ↔ x ∈ cs.map Prod.fst :=
  ⟨fun ⟨ws, hw, hx, _⟩ => o.perm.mem_iff.mp (List.mem_flatten.mpr ⟨ws, hw, hx⟩), fun h => let ⟨ws, hw, hx⟩ := o.line h; ⟨ws, hw, hx, hx⟩⟩
theorem Tog.left {ls : List (List Str)} {x y : Str} (h : Tog ls x y) : Tog ls x x := let ⟨ws, hw, hx, _⟩ := h; ⟨ws, hw, hx, hx⟩
theorem singles_one {cs : List (Str × Nat)} {r : Nat} {a b : List (List Str)} (g : GoodCs cs) (oa : LsOk cs r a) (ob : LsOk cs r b) (ha : ∀ x y, Tog a x y → x = y) (hb : ∀ x y, Tog b x y → x = y) : a = b := by
  refine LsOk.ext g oa ob fun x y => ⟨fun h => ?_, fun h => ?_⟩
  · have e := ha x y h
    subst e
    exact (tog_self ob).mpr ((tog_self oa).mp h)
  · have e := hb x y h
    subst e
    exact (tog_self oa).mpr ((tog_self ob).mp h)
/-- cells go to lines of their own, one by one -/
theorem to_singles {cs : List (Str × Nat)} {r : Nat} {S : List (List Str) → Prop} (g : GoodCs cs) (hS : ∀ a b, LsOk cs r a → S a → Edge cs r a b → S b) : ∀ (zs : List Str) (ls : List (List Str)), LsOk cs r ls → (∀ z ∈ zs, z ∈ cs.map Prod.fst) → (∀ x y, Tog ls x y → x = y ∨ (x ∈ zs ∧ y ∈ zs)) → ∃ o, LsOk cs r o ∧ (∀ x y, Tog o x y → x = y) ∧ (S ls ↔ S o)
  | [], ls, ok, _, h => ⟨ls, ok, (fun x y t => (h x y t).resolve_right fun q => (nomatch q.1)), Iff.rfl⟩
  | z :: zs, ls, ok, hin, h => by
    have hz := hin z List.mem_cons_self
    have gd : ls.getD ls.length [] = [] := by rw [List.getD_eq_getElem?_getD, List.getElem?_eq_none (Nat.le_refl _)]; rfl
    obtain ⟨m, hm⟩ : ∃ m, moveL cs r ls z ls.length = some m := by
      unfold moveL
      rw [if_neg (by rw [gd]; exact fun q => nomatch q)]
      refine ⟨_, if_pos ?_⟩
      rw [drop_get, gd]
      show total cs [z] ≤ r
      obtain ⟨ws, hw, hzw⟩ := ok.line hz
      have nw : ws.Nodup := (ok.nd g).sublist (List.sublist_flatten_of_mem hw)
      have := ok.tot ws hw
      rw [← total_same (perm_out nw hzw), total_app] at this
      omega
    have ok2 := move_ok g ok hz (Nat.le_refl _) hm
    have ed : Edge cs r ls (sortL (m.map srt)) := ⟨z, hz, ls.length, Nat.le_refl _, m, hm, rfl⟩
    obtain ⟨o, h1, h2, h3⟩ := to_singles g hS zs _ ok2 (fun y hy => hin y (List.mem_cons_of_mem _ hy)) fun x y t => by
      rcases (move_tog g ok (Nat.le_refl _) hm).mp t with ⟨hx, hy⟩ | ⟨hx, hy, t⟩
      · rw [gd] at hx hy
        exact .inl ((hx.resolve_left fun q => nomatch q).trans (hy.resolve_left fun q => nomatch q).symm)
      · rcases h x y t with e | ⟨qx, qy⟩
        · exact .inl e
        · exact .inr ⟨(List.mem_cons.mp qx).resolve_left hx, (List.mem_cons.mp qy).resolve_left hy⟩
    exact ⟨o, h1, h2, ⟨fun s => h3.mp (hS _ _ ok s ed), fun s => hS _ _ ok2 (h3.mpr s) (ed.back g ok)⟩⟩
/-- what holds for one and stays by moves holds for all -/
theorem all_linked {cs : List (Str × Nat)} {r : Nat} {S : List (List Str) → Prop} (g : GoodCs cs) (hS : ∀ a b, LsOk cs r a → S a → Edge cs r a b → S b) {a b : List (List Str)} (oa : LsOk cs r a) (ob : LsOk cs r b) (h : S a) : S b := by
  have inv : ∀ {ls : List (List Str)}, LsOk cs r ls → ∀ x y, Tog ls x y → x = y ∨ (x ∈ cs.map Prod.fst ∧ y ∈ cs.map Prod.fst) := fun o x y ⟨ws, hw, hx, hy⟩ => .inr ⟨o.perm.mem_iff.mp (List.mem_flatten.mpr ⟨ws, hw, hx⟩), o.perm.mem_iff.mp (List.mem_flatten.mpr ⟨ws, hw, hy⟩)⟩
  obtain ⟨o1, p1, q1, e1⟩ := to_singles g hS _ a oa (fun _ h => h) (inv oa)
  obtain ⟨o2, p2, q2, e2⟩ := to_singles g hS _ b ob (fun _ h => h) (inv ob)
  exact e2.mpr (singles_one g p1 p2 q1 q2 ▸ e1.mp h)
theorem part_ok {cs : List (Str × Nat)} {r : Nat} {w : List (List Str)} (g : GoodCs cs) : Part (fitB cs r) (srt (cs.map Prod.fst)) w ↔ LsOk cs r w := by
  constructor
  · intro p
    refine ⟨p.perm.trans (srt_perm _), p.ne, fun ws hw => of_decide_eq_true (p.fits ws hw), ?_⟩
    rw [(part_ord p).1, (part_ord p).2]
  · intro o
    refine ⟨o.perm.trans (srt_perm _).symm, o.ne, fun ws hw => ?_, fun ws hw => decide_eq_true (o.tot ws hw), ?_⟩
    · have := srt_asc ((o.nd g).sublist (List.sublist_flatten_of_mem hw))
      rwa [o.srt ws hw] at this
    · have h : (sortL w).Pairwise fun a b => leL a b = true := List.pairwise_mergeSort (dle_trans lnD) (dle_total lnD) w
      rw [o.sort] at h
      have hn := nodup_lines (o.nd g) o.ne
      have h2 := List.Pairwise.and_mem.mp (List.Pairwise.imp₂ (R := fun a b => leL a b = true) (S := fun a b => a ≠ b) (T := fun a b => leL a b = true ∧ a ≠ b) (fun _ _ p q => ⟨p, q⟩) h hn)
      refine List.Pairwise.imp ?_ h2
      rintro a b ⟨ha, hb, hle, hne⟩ x xs y ys rfl rfl
      have hxy : x ≠ y := fun e => hne (line_uniq (o.nd g) ha hb List.mem_cons_self (e ▸ List.mem_cons_self))
      by_cases e : leS x y = true
      · exact ⟨e, hxy⟩
      · have t := leS_total x y
        rw [Bool.not_eq_true _ |>.mp e, Bool.false_or] at t
        exact absurd (ln_anti hle (leL_heads ⟨t, fun q => hxy q.symm⟩)) hne
theorem mem_allW {cs : List (Str × Nat)} {r : Nat} {w : List (List Str)} (g : GoodCs cs) : w ∈ allW cs r ↔ LsOk cs r w := by
  unfold allW
  rw [(sortW_perm _).mem_iff, (ways_all (fit_mono cs r) _ _ rfl (srt_asc g.nd)).2 w]
  exact part_ok g
theorem allW_nd {cs : List (Str × Nat)} {r : Nat} (g : GoodCs cs) : (allW cs r).Nodup := (sortW_perm _).nodup_iff.mpr (ways_all (fit_mono cs r) _ _ rfl (srt_asc g.nd)).1
theorem keyW_len {a b : List (List Str)} (h : PySem.W.dataLe false keyW a b = true) : a.length ≤ b.length := by
  have e1 : (listOrd itemOrd).blt (PySem.W.keyToks (keyW b)) (PySem.W.keyToks (keyW a)) = false := Bool.not_eq_true' _ |>.mp h
  unfold keyW waD at e1
  simp only [PySem.W.keyToks, PySem.W.keyToksAll, List.cons_append, List.nil_append] at e1
  rw [lex_self (O := itemOrd)] at e1
  have t := (lex_false.mp e1).1
  have t : decide ((b.length : Int) < (a.length : Int)) = false := t
  have := of_decide_eq_false t
  omega
theorem allW_len {cs : List (Str × Nat)} {r : Nat} : (allW cs r).Pairwise fun a b => a.length ≤ b.length :=
  List.Pairwise.imp keyW_len (List.pairwise_mergeSort (dle_trans keyW) (dle_total keyW) _)
theorem LsOk.some {cs : List (Str × Nat)} {r : Nat} {w : List (List Str)} (g : GoodCs cs) (o : LsOk cs r w) : w ≠ [] := fun e => by
  subst e
  have := o.perm.length_eq
  rw [List.length_map] at this
  exact g.some (List.length_eq_zero_iff.mp this.symm)
/-- with room for all the first has one line -/
theorem first_one {cs : List (Str × Nat)} {r : Nat} {w : List (List Str)} {rest : List (List (List Str))} (g : GoodCs cs) (hr : total cs (cs.map Prod.fst) ≤ r) (h : allW cs r = w :: rest) : w.length = 1 := by
  have o1 : LsOk cs r (sortL ([cs.map Prod.fst].map srt)) := ok_of (by simp) fun ws hw => by
    rw [List.mem_singleton.mp hw]
    exact ⟨fun e => g.some (List.map_eq_nil_iff.mp e), hr⟩
  have m1 := (mem_allW g).mpr o1
  have l1 : (sortL ([cs.map Prod.fst].map srt)).length = 1 := (sortL_perm _).length_eq
  have mw : w ∈ allW cs r := by rw [h]; exact List.mem_cons_self
  have n := ((mem_allW g).mp mw).some g
  have hp := allW_len (cs := cs) (r := r)
  rw [h] at m1 hp
  have : w.length ≤ 1 := by
    rcases List.mem_cons.mp m1 with e | e
    · rw [← e, l1]
      exact Nat.le_refl _
    · have := (List.pairwise_cons.mp hp).1 _ e
      rwa [l1] at this
  have := List.length_pos_iff.mpr n
  omega
theorem own_lines {cs : List (Str × Nat)} : ownLs cs = sortL ((cs.map fun p => [p.1]).map srt) := by
  unfold ownLs
  rw [List.map_map]
  congr 1
  exact List.map_congr_left fun p _ => (srt_one p.1).symm
theorem own_ok {cs : List (Str × Nat)} {r : Nat} (g : GoodCs cs) (hr : maxOf cs ≤ r) : LsOk cs r (ownLs cs) := by
  rw [own_lines]
  refine ok_of ?_ fun ws hw => ?_
  · have : ∀ cs : List (Str × Nat), (cs.map fun p => [p.1]).flatten = cs.map Prod.fst := fun cs => by
      induction cs with
      | nil => rfl
      | cons c cs ih => rw [List.map_cons, List.flatten_cons, ih]; rfl
    rw [this]
  · obtain ⟨p, hp, rfl⟩ := List.mem_map.mp hw
    refine ⟨by simp, ?_⟩
    have e : sizeOfD cs p.1 = p.2 := by unfold sizeOfD; rw [size_of_mem g.nd hp]; rfl
    have := size_le_max hp
    show (([p.1].map (sizeOfD cs)).sum) ≤ _
    rw [List.map_cons, List.map_nil, List.sum_cons, List.sum_nil, e]
    omega
theorem own_tog {cs : List (Str × Nat)} {x y : Str} (h : Tog (ownLs cs) x y) : x = y := by
  rw [own_lines, tog_sort] at h
  obtain ⟨ws, hw, hx, hy⟩ := h
  obtain ⟨p, _, rfl⟩ := List.mem_map.mp hw
  exact (List.mem_singleton.mp hx).trans (List.mem_singleton.mp hy).symm
theorem ones_len : ∀ {ls : List (List Str)}, (∀ ws ∈ ls, ws ≠ []) → ls.flatten.length ≤ ls.length → ∀ ws ∈ ls, ws.length = 1
  | [], _, _, _, h => nomatch h
  | a :: ls, h, e, ws, hw => by
    have h2 : ∀ ws ∈ ls, ws ≠ [] := fun ws hw => h ws (List.mem_cons_of_mem _ hw)
    have l1 := flat_len2 h2
    have la := List.length_pos_iff.mpr (h a List.mem_cons_self)
    rw [List.flatten_cons, List.length_append, List.length_cons] at e
    rcases List.mem_cons.mp hw with rfl | hw
    · omega
    · exact ones_len h2 (by omega) ws hw
/-- the last has a line for each cell -/
theorem last_own {cs : List (Str × Nat)} {r : Nat} {w : List (List Str)} {pre : List (List (List Str))} (g : GoodCs cs) (hr : maxOf cs ≤ r) (h : allW cs r = pre ++ [w]) : w = ownLs cs ∧ w.length = cs.length := by
  have oo := own_ok g hr
  have m1 := (mem_allW g).mpr oo
  have mw : w ∈ allW cs r := by rw [h]; exact List.mem_append_right _ List.mem_cons_self
  have ow := (mem_allW g).mp mw
  have lo : (ownLs cs).length = cs.length := by
    unfold ownLs
    rw [(sortL_perm _).length_eq, List.length_map]
  have hp := allW_len (cs := cs) (r := r)
  rw [h] at m1 hp
  have l1 : cs.length ≤ w.length := by
    rcases List.mem_append.mp m1 with e | e
    · have := (List.pairwise_append.mp hp).2.2 _ e w List.mem_cons_self
      rwa [lo] at this
    · rw [← List.mem_singleton.mp e, lo]
      exact Nat.le_refl _
  have l2 : w.flatten.length = cs.length := by rw [ow.perm.length_eq, List.length_map]
  have l3 := flat_len2 ow.ne
  have e : w = ownLs cs := singles_one g ow oo (fun x y ⟨ws, hw, hx, hy⟩ => by
    have h1 := ones_len ow.ne (by omega) ws hw
    obtain ⟨a, rfl⟩ := List.length_eq_one_iff.mp h1
    exact (List.mem_singleton.mp hx).trans (List.mem_singleton.mp hy).symm) fun x y => own_tog
  exact ⟨e, by rw [e, lo]⟩
end Vf

set_option maxRecDepth 100000
set_option maxHeartbeats 4000000
namespace Vf
open PySem PySem.Spec PyProof.Rows L2
theorem val_in {kvs : List (Key × V)} {k : Key} {v : V} (h : valV kvs k = some v) : ∃ p ∈ kvs, p.2 = v := by
  induction kvs with
  | nil => cases h
  | cons p r ih =>
    by_cases e : p.1 = k
    · rw [valV_pos e] at h
      exact ⟨p, List.mem_cons_self, Option.some.inj h⟩
    · rw [valV_neg e] at h
      obtain ⟨q, hq, e2⟩ := ih h
      exact ⟨q, List.mem_cons_of_mem _ hq, e2⟩
theorem hits_ints {A : Around} {s : Shared} {kvs : List (Key × V)} {vb : List (Key × Value)} (rb : KV kvs vb) (hl : ∀ p ∈ kvs, ∃ i, p.2 = V.int i) {ks : List (Key × V)} {va : List (Key × Value)} (ra : KV ks va) :
    (∀ p ∈ ks, ∃ i, p.2 = V.int i) → PySem.W.KeqHits A s vb va (ks.all fun p => decide (valV kvs p.1 = some p.2)) := by
  unfold KV at ra
  induction ra with
  | nil => intro _; exact .nil
  | @cons p q ps qs h t ih =>
    intro hp
    obtain ⟨h1, h2⟩ := h
    obtain ⟨i, hi⟩ := hp p List.mem_cons_self
    obtain ⟨k, v⟩ := q
    have h1' : p.1 = k := h1
    subst h1'
    have ih' := ih fun p' hm => hp p' (List.mem_cons_of_mem _ hm)
    rw [List.all_cons]
    have rv := rb.val p.1
    cases e : valV kvs p.1 with
    | none =>
      rw [e] at rv
      rw [decide_eq_false (by intro z; cases z), Bool.false_and]
      exact .miss (RelO.none_of rv)
    | some y =>
      rw [e] at rv
      obtain ⟨u, hu, ru⟩ := rv.some_of
      obtain ⟨q2, hq2, rfl⟩ := val_in e
      obtain ⟨j, hj⟩ := hl q2 hq2
      rw [hj] at ru ⊢
      rw [hi] at h2 ⊢
      obtain ⟨t1, rfl⟩ : ∃ t, v = Value.int i t := h2
      obtain ⟨t2, rfl⟩ : ∃ t, u = Value.int j t := ru
      have e2 : decide (some (V.int j) = some (V.int i)) = (i == j) := by
        by_cases hij : i = j
        · subst hij
          simp
        · rw [decide_eq_false (fun z => hij (V.int.inj (Option.some.inj z)).symm)]
          simp [hij]
      rw [e2]
      exact .hit hu (SeqAt.EqAt.int_int i t1 j t2) ih'
def rEqDI : R2 := fun x y H Q => ∃ a b ks ls, x = .ref a ∧ y = .ref b ∧ H a = some (.dK ks) ∧ H b = some (.dK ls) ∧ (∀ p ∈ ks, ∃ i, p.2 = V.int i) ∧ (∀ p ∈ ls, ∃ i, p.2 = V.int i) ∧ Q (.bl (ks.length == ls.length && ks.all fun p => decide (valV ls p.1 = some p.2))) H
theorem op_eqDI {X : Cx} (hu : X.A.units < cLine) : OpR X (compareOp .Eq) rEqDI := by
  intro pins s σ H x y v u Q I rx ry h
  obtain ⟨a, b, ks, ls, rfl, rfl, ea, eb, hk, hl, q⟩ := h
  obtain rfl : v = Value.ref a := rx
  obtain rfl : u = Value.ref b := ry
  obtain ⟨_, ya, va, ra, da⟩ := (show ObjOk X.prog X.w H s.heap a (.dK ks) from I.hok a _ ea)
  obtain ⟨_, yb, vb, rb, db⟩ := (show ObjOk X.prog X.w H s.heap b (.dK ls) from I.hok b _ eb)
  have l1 : ks.length = va.length := ra.length
  have l2 : ls.length = vb.length := rb.length
  exact PySem.W.keq_eq (knd := mixKind X.prog X.w) (r := ks.all fun p => decide (valV ls p.1 = some p.2)) ya yb da db hu (fun _ => hits_ints rb hl ra hk) (fin_bl I q (by rw [l1, l2]))
end Vf

set_option maxRecDepth 100000
set_option maxHeartbeats 8000000
namespace Vf
open PySem PySem.Spec PyProof.Rows L2
theorem cell_ints (cs : List (Str × Nat)) : ∀ p ∈ cellKv cs, ∃ i, p.2 = V.int i := fun p hp => by
  obtain ⟨c, _, rfl⟩ := List.mem_map.mp hp
  exact ⟨_, rfl⟩
/-- dicts of cells are equal just if the cells are, whatever their order -/
theorem cells_eq {a b : List (Str × Nat)} (na : (a.map Prod.fst).Nodup) (nb : (b.map Prod.fst).Nodup) : ((cellKv a).length == (cellKv b).length && (cellKv a).all fun p => decide (valV (cellKv b) p.1 = some p.2)) = true ↔ a.Perm b := by
  have la : (cellKv a).length = a.length := List.length_map ..
  have lb : (cellKv b).length = b.length := List.length_map ..
  rw [Bool.and_eq_true, beq_iff_eq, la, lb, List.all_eq_true]
  constructor
  · rintro ⟨hl, h⟩
    have sub : ∀ c ∈ a, c ∈ b := fun c hc => by
      have e := of_decide_eq_true (h (Sum.inr c.1, V.int (c.2 : Int)) (List.mem_map_of_mem (f := fun p : Str × Nat => ((Sum.inr p.1, V.int (p.2 : Int)) : Key × V)) hc))
      have e' : valV (cellKv b) (Sum.inr c.1) = some (V.int (c.2 : Int)) := e
      rw [valV_cells] at e'
      cases e2 : sizeOf? b c.1 with
      | none => rw [e2] at e'; cases e'
      | some n =>
        rw [e2] at e'
        have e3 : (n : Int) = c.2 := V.int.inj (Option.some.inj e')
        unfold sizeOf? at e2
        cases e4 : b.find? fun p => decide (p.1 = c.1) with
        | none => rw [e4] at e2; cases e2
        | some q =>
          rw [e4] at e2
          have e5 : q.2 = n := Option.some.inj e2
          have e6 : q.1 = c.1 := of_decide_eq_true (List.find?_some (p := fun p : Str × Nat => decide (p.1 = c.1)) e4)
          have : c = q := Prod.ext e6.symm (by omega)
          rw [this]
          exact List.mem_of_find?_eq_some e4
    have nda : a.Nodup := List.Pairwise.imp (fun h z => h (by rw [z])) (List.pairwise_map.mp na)
    have go : ∀ (a b : List (Str × Nat)), a.Nodup → a.length = b.length → (∀ c ∈ a, c ∈ b) → b.Perm a := by
      intro a
      induction a with
      | nil =>
        intro b _ hl _
        rw [List.length_eq_zero_iff.mp hl.symm]
      | cons c r ih =>
        intro b hn hl hs
        have hm := hs c List.mem_cons_self
        have hn' := List.nodup_cons.mp hn
        have e := List.length_erase_of_mem hm
        rw [List.length_cons] at hl
        have := ih (b.erase c) hn'.2 (by omega) fun z hz => (List.mem_erase_of_ne fun q : z = c => hn'.1 (by rw [← q]; exact hz)).mpr (hs z (List.mem_cons_of_mem _ hz))
        exact (List.perm_cons_erase hm).trans (this.cons c)
    exact (go a b nda hl sub).symm
  · intro p
    refine ⟨p.length_eq, fun q hq => ?_⟩
    obtain ⟨c, hc, rfl⟩ := List.mem_map.mp hq
    refine decide_eq_true ?_
    show valV (cellKv b) (Sum.inr c.1) = some (V.int (c.2 : Int))
    rw [valV_cells, size_of_mem nb (p.mem_iff.mp hc)]
    rfl
theorem lines_inj {a b : List (List Str)} : linesD a = linesD b ↔ a = b := by
  refine ⟨fun h => ?_, fun h => by rw [h]⟩
  have h' : a.map lnD = b.map lnD := by injection h
  clear h
  induction a generalizing b with
  | nil => cases b <;> simp_all
  | cons x a ih =>
    cases b with
    | nil => cases h'
    | cons y b =>
      rw [List.map_cons, List.map_cons] at h'
      injection h' with h1 h2
      have h3 : x.map PyData.str = y.map PyData.str := by unfold lnD at h1; injection h1
      have h4 : x = y := by
        have := congrArg PySem.W.keyToksAll h3
        exact toks_ln this
      rw [h4, ih h2]
section
variable {P : Program} {w : World} {K : PySem.W.Frag} {mg : Str → Option Value} {base : Heap}
/-- == of layouts, and with what is none -/
def sp_Layout_eqG (K : PySem.W.Frag) (C : Addr) : Sp := fun vs H Q _ => ∃ (p sd nd : Addr) (cs : List (Str × Nat)) (r : Nat) (ls : List (List Str)) (y : V), vs = [.ref p, y] ∧ LayAt C H p sd nd cs r ls ∧ (cs.map Prod.fst).Nodup ∧ (∀ ws ∈ ls, ∀ z ∈ ws, PyData.strOk z = true) ∧
  ((∃ (p2 sd2 nd2 : Addr) (cs2 : List (Str × Nat)) (r2 : Nat) (ls2 : List (List Str)), y = .ref p2 ∧ LayAt C H p2 sd2 nd2 cs2 r2 ls2 ∧ (cs2.map Prod.fst).Nodup ∧ (∀ ws ∈ ls2, ∀ z ∈ ws, PyData.strOk z = true) ∧ ∀ b : Bool, (b = true ↔ (cs.Perm cs2 ∧ r = r2 ∧ ls = ls2)) → Q (.bl b) H) ∨
    ∃ n, TyX K H y (.type n) ∧ PySem.W.subIn K (.type n) (.ref C) = some false ∧ Q (.bl false) H)
theorem kit_other {K : PySem.W.Frag} {C : Addr} {n : String} (T : TxtE K C) (h : PySem.W.subIn K (.type n) (.ref C) = some false) : PySem.W.kitOne K (.type n) (.ref C) = some false := by
  unfold PySem.W.kitOne
  rw [if_neg (by simp)]
  unfold PySem.W.kitCls
  dsimp only
  rw [if_pos ?_]
  · exact h
  · rw [T.tyC, show (PySem.W.clsIn K C).isSome = true from T.clC]
    rfl
theorem ok_Layout_eqG {f C : Addr} {fd : FuncData} (F : Fun K "__eq__" "Layout.__eq__" s_Layout_eq f fd) (T : Txt0 K mg) (TL : TxtL K mg C) (TE : TxtE K C) : FnOk P w K mg base CX0 1 f fd p_Layout_eq (sp_Layout_eqG K C) := by
  refine F.ok sc_Layout_eq (fun vs H Q E h => ?_) (fun cdv A outer s H vs Q E hr h => ?_)
  · obtain ⟨p, sd, nd, cs, r, ls, y, rfl, _⟩ := h
    rfl
  · obtain ⟨p, sd, nd, cs, r, ls, y, rfl, l1, nd1, ok1, k⟩ := h
    refine ⟨_, pss_one (ps_ret (pe_and (pe_callB call_isi (by rfl) T.isinstance boot_isinstance (pa_cons (pv 1) (pa_cons (pe_glob (v := .ref C) rfl TL.mgC rfl) pa_nil)))
      (pe_and (pe_cmpR (op_eqDI (Nat.lt_of_le_of_lt (Nat.le_add_right _ 64) hr.units)) (pe_fld (pv 0) rfl) (pe_fld (pv 1) rfl) (nomark _))
      (pe_and (pe_cmpR op_eq (pe_fld (pv 0) rfl) (pe_fld (pv 1) rfl) (nomark _))
      (pe_one (pe_cmpR (op_eqD hr.units) (pe_fld (pv 0) rfl) (pe_fld (pv 1) rfl) (nomark _))))))), ?_⟩
    obtain ⟨dx, t, qs, h1, h2, h3, h4, h5⟩ := l1
    rcases k with ⟨p2, sd2, nd2, cs2, r2, ls2, rfl, l2, nd2', ok2, k⟩ | ⟨n, ty, sub, k⟩
    case inr => exact ⟨_, rfl, _, _, _, _, false, rfl, .own C, ty, kit_other TE sub, false, rfl, iteF k⟩
    have ty2 := ty_lay TE TL l2
    obtain ⟨dx2, t2, qs2, g1, g2, g3, g4, g5⟩ := l2
    refine ⟨_, rfl, _, _, _, _, true, rfl, .own C, ty2, kit_self, true, rfl, iteT ?_⟩
    refine ⟨_, rfl, p, C, dx, _, _, rfl, h1, TL.cl, TL.nS, lk_sizes, _, rfl, p2, C, dx2, _, _, rfl, g1, TL.cl, TL.nS, lk_sizes, sd, sd2, _, _, rfl, rfl, h2, g2, cell_ints _, cell_ints _, _, rfl, ?_⟩
    have ce := cells_eq nd1 nd2'
    cases hb : ((cellKv cs).length == (cellKv cs2).length && (cellKv cs).all fun p => decide (valV (cellKv cs2) p.1 = some p.2)) with
    | false =>
      refine iteF (k false ⟨(fun z => by cases z), fun z => ?_⟩)
      rw [ce.mpr z.1] at hb
      cases hb
    | true =>
      have pm := ce.mp hb
      refine iteT ⟨_, rfl, p, C, dx, _, _, rfl, h1, TL.cl, TL.nR, lk_room, _, rfl, p2, C, dx2, _, _, rfl, g1, TL.cl, TL.nR, lk_room, rfl, _, rfl, ?_⟩
      by_cases hrr : r = r2
      · subst hrr
        rw [decide_eq_true (p := V.int (r : Int) = V.int (r : Int)) rfl]
        refine iteT ⟨_, rfl, p, C, dx, _, _, rfl, h1, TL.cl, TL.nL, lk_lines, _, rfl, p2, C, dx2, _, _, rfl, g1, TL.cl, TL.nL, lk_lines, linesD ls, linesD ls2, h5 ▸ h4.dp, g5 ▸ g4.dp, shaped_lines ok1, shaped_lines ok2, ?_⟩
        refine k _ ?_
        rw [eqv_iff _ _ (by simp only [linesD, plainD, plain_lines ok1]) (by simp only [linesD, plainD, plain_lines ok2]), lines_inj]
        exact ⟨fun e => ⟨pm, rfl, e⟩, fun z => z.2.2⟩
      · rw [decide_eq_false (p := V.int (r : Int) = V.int (r2 : Int)) (fun z => hrr (by have := V.int.inj z; omega))]
        exact iteF (k false ⟨(fun z => by cases z), fun z => absurd z.2.1 hrr⟩)
end
end Vf

set_option maxRecDepth 100000
set_option maxHeartbeats 16000000
namespace Vf
open PySem PySem.Spec PyProof.Rows L2
/-- the moves of a layout: the cell, the lines behind the move -/
def movesZ (cs : List (Str × Nat)) (r : Nat) (ls : List (List Str)) (z : Str) (n : Nat) : List (Str × List (List Str)) := (List.range n).filterMap fun i => (moveL cs r ls z i).map fun m => (z, sortL (m.map srt))
def movesOf (cs : List (Str × Nat)) (r : Nat) (ls : List (List Str)) : List (Str × List (List Str)) := (srt (cs.map Prod.fst)).flatMap fun z => movesZ cs r ls z (ls.length + 1)
structure MovesAt (C : Addr) (H : Hp) (l : Addr) (cs : List (Str × Nat)) (r : Nat) (bs : List (Addr × Str × Addr × List (List Str))) : Prop where
  at_ : H l = some (.lst (bs.map fun b => V.ref b.1))
  each : ∀ b ∈ bs, H b.1 = some (.tup [.str b.2.1, .ref b.2.2.1]) ∧ ∃ sd nd, LayAt C H b.2.2.1 sd nd cs r b.2.2.2
theorem MovesAt.same {C : Addr} {H H' : Hp} {l : Addr} {cs : List (Str × Nat)} {r : Nat} {bs : List (Addr × Str × Addr × List (List Str))} (h : MovesAt C H l cs r bs) (s : Same H H') : MovesAt C H' l cs r bs :=
  ⟨s _ _ h.at_, fun b hb => let ⟨a, sd, nd, lay⟩ := h.each b hb; ⟨s _ _ a, sd, nd, lay.same s⟩⟩
theorem LayAt.upd_lst {C D : Addr} {H : Hp} {p sd nd : Addr} {cs : List (Str × Nat)} {r : Nat} {ls : List (List Str)} {xs : List V} {o : HO} (h : LayAt C H p sd nd cs r ls) (hD : H D = some (.lst xs)) : LayAt C (upd H D o) p sd nd cs r ls := by
  obtain ⟨dx, t, qs, h1, h2, h3, h4, h5⟩ := h
  have go : ∀ {a : Addr} {u : HO}, H a = some u → u ≠ .lst xs → (upd H D o) a = some u := fun e n => by rw [upd_ne (ne_of e hD n)]; exact e
  exact ⟨dx, t, qs, go h1 (by intro z; cases z), go h2 (by intro z; cases z), go h3 (by intro z; cases z), ⟨go h4.1 (by intro z; cases z), fun q hq => go (h4.2 q hq) (by intro z; cases z)⟩, h5⟩
theorem MovesAt.more {C : Addr} {H : Hp} {l t q : Addr} {z : Str} {w : List (List Str)} {cs : List (Str × Nat)} {r : Nat} {bs : List (Addr × Str × Addr × List (List Str))} {sd nd : Addr} (h : MovesAt C H l cs r bs) (ht : H t = some (.tup [.str z, .ref q])) (hq : LayAt C H q sd nd cs r w) :
    MovesAt C (upd H l (.lst ((bs.map fun b => V.ref b.1) ++ [.ref t]))) l cs r (bs ++ [(t, z, q, w)]) := by
  refine ⟨by rw [upd_same, List.map_append]; rfl, fun b hb => ?_⟩
  have go : ∀ {a : Addr} {xs : List V}, H a = some (.tup xs) → (upd H l (.lst ((bs.map fun b => V.ref b.1) ++ [.ref t]))) a = some (.tup xs) := fun e => by rw [upd_ne (ne_of e h.at_ (by intro z; cases z))]; exact e
  rcases List.mem_append.mp hb with hb | hb
  · obtain ⟨a, sd, nd, lay⟩ := h.each b hb
    exact ⟨go a, sd, nd, lay.upd_lst h.at_⟩
  · rw [List.mem_singleton.mp hb]
    exact ⟨go ht, sd, nd, hq.upd_lst h.at_⟩
/-- what the text says of the class's methods -/
structure LayMv (P : Program) (w : World) (K : PySem.W.Frag) (mg : Str → Option Value) (base : Heap) (C CE CB : Addr) : Prop where
  cells : ∃ f fd, Meth K C "cells" f ∧ FnOk P w K mg base CX0 1 f fd p_Layout_cells (sp_Layout_cells C) ∧ Binds K fd p_Layout_cells []
  line : ∃ f fd, Meth K C "line_of" f ∧ FnOk P w K mg base CX0 1 f fd p_Layout_line_of (sp_Layout_line_of C) ∧ Binds K fd p_Layout_line_of []
  moved : ∃ f fd, Meth K C "moved" f ∧ FnOk P w K mg base (L2.CX P w) 6 f fd p_Layout_moved (sp_movedX K C CE CB) ∧ Binds K fd p_Layout_moved []
/-- a call that raises nothing, as it is told -/
theorem passE0 {X : Cx} : Passes (L2.CX X.prog X.w) X E0 := fun _ _ _ _ _ _ _ h => by
  obtain ⟨_, _, _, _, _, _, _, _, _, _, _, _, hE⟩ := h
  exact hE.elim
theorem moveO_nat {cs : List (Str × Nat)} {r : Nat} {ls : List (List Str)} {z : Str} {i : Nat} (hi : i ≤ ls.length) : moveO cs r ls z (some (i : Int)) = moveL cs r ls z i := by
  show (if (0 : Int) ≤ (i : Int) ∧ (i : Int) ≤ (ls.length : Int) then moveL cs r ls z (i : Int).toNat else none) = _
  rw [if_pos ⟨by omega, by omega⟩, Int.toNat_natCast]
section
variable {P : Program} {w : World} {K : PySem.W.Frag} {mg : Str → Option Value} {base : Heap}
def sp_law_moves (C : Addr) : Sp := fun vs H Q _ => ∃ (p sd nd : Addr) (cs : List (Str × Nat)) (r : Nat) (ls : List (List Str)), vs = [.ref p] ∧ LayAt C H p sd nd cs r ls ∧ GoodCs cs ∧ srtCs cs = cs ∧ 1 ≤ r ∧ r ≤ 32 ∧ LsOk cs r ls ∧
  ∀ l bs H', Same H H' → MovesAt C H' l cs r bs → bs.map (fun b => (b.2.1, b.2.2.2)) = movesOf cs r ls → Q (.ref l) H'
theorem ok_law_moves {f C CE CB : Addr} {fd : FuncData} (F : Fun K "_law_moves" "_law_moves" s_law_moves f fd) (T : Txt0 K mg) (TM : TxtM mg) (TL : TxtL K mg C) (M : LayMv P w K mg base C CE CB) (EB : ErrP K mg "BadLine" CB) : FnOk P w K mg base CX0 7 f fd p_law_moves (sp_law_moves C) := by
  refine F.ok sc_law_moves (fun vs H Q E h => ?_) (fun cdv A outer s H vs Q E hr h => ?_)
  · obtain ⟨p, sd, nd, cs, r, ls, rfl, _⟩ := h
    rfl
  · obtain ⟨p, sd, nd, cs, r, ls, rfl, lay, g, gs, r1, r32, lo, k⟩ := h
    obtain ⟨fc, fdc, mc, Fc, bc⟩ := M.cells
    obtain ⟨fm, fdm, mm, Fm, bm⟩ := M.moved
    have hr1 : Room 1 _ := hr.mono (by decide)
    refine ⟨_, pss_cons (ps_set (i := 1) sc_law_moves.nd rfl (Or.inl rfl) (pe_lst pa_nil))
      (pss_cons (ps_for PassesOwn.never rfl (pi_list (pe_callB (call_sortedD rfl) (by rfl) T.sorted (by decide +kernel) (pa_cons (pe_meth0 (pv 0) TL.cl mc Fc hr1 bc .nil pass0) pa_nil))) (pg_name (i := 2) sc_law_moves.nd rfl (Or.inl rfl))
        (pss_one (ps_for PassesOwn.never rfl (pi_range1 (by rfl) TM.range (pa_cons (pe_op op_add (pe_callB (cr_len (K := K) rfl) (by rfl) T.len PySem.boot_len (pa_cons (pe_fld (pv 0) rfl) pa_nil)) pe_int) pa_nil)) (pg_name (i := 3) sc_law_moves.nd rfl (Or.inl rfl))
          (pss_cons (ps_set (i := 4) sc_law_moves.nd rfl (Or.inl rfl) pe_non)
          (pss_cons (ps_try_manyN (tb := fun W => tAsg (tMethE C "moved" (sp_movedX K C CE CB) (WE W) (tVar 0) (tCons (tVar 2) (tCons (tVar 3) tNil))) (gName 4)) (Wout := fun _ _ _ _ => False) rfl rfl takes0
              (fun W pn xe tk _ => pss_one (ps_set (i := 4) sc_law_moves.nd rfl (Or.inl rfl) (by exact pe_methE (pv 0) TL.cl mm Fm hr bm (fun σ => passAt tk σ) (pa_cons (pv 2) (pa_cons (pv 3) pa_nil)))))
              (HdsN.named (i := 5) sc_law_moves.nd rfl rfl ⟨rfl, by decide, Or.inl EB.gC⟩ (fun a oe cls d pn hz hf => pss_one (ps_set (i := 4) sc_law_moves.nd rfl (Or.inl rfl) pe_non)) HdsN.nil))
          (pss_one (ps_if (pt_cmpR op_notN (pv 4) pe_non (nomark _)) (pss_one (ps_expr (pe_bm PySem.F.plainAttrs_list PySem.F.slot_list_append PySem.F.type_list_append mt_append (pv 1) (pa_cons (pe_tup (pa_cons (pv 2) (pa_cons (pv 4) pa_nil))) pa_nil)))) pss_nil)))))))
      (pss_one (ps_ret (pv 1)))), ?_⟩
    have noC : ¬ (("cells" : Str)) = "_sizes" ∧ ¬ (("cells" : Str)) = "room" ∧ ¬ (("cells" : Str)) = "lines" ∧ ¬ (("cells" : Str)) = "_numbers" := by decide +kernel
    have noM : ¬ (("moved" : Str)) = "_sizes" ∧ ¬ (("moved" : Str)) = "room" ∧ ¬ (("moved" : Str)) = "lines" ∧ ¬ (("moved" : Str)) = "_numbers" := by decide +kernel
    obtain ⟨dx, t, qs, h1, h2, h3, h4, h5⟩ := id lay
    refine ⟨Nat.zero_le _, fun fl hfl => ?_⟩
    have s1 := same_new (o := .lst []) hfl
    have m1 : MovesAt C (upd H fl (.lst [])) fl cs r [] := ⟨upd_same, fun b hb => nomatch hb⟩
    refine ⟨_, rfl, p, dx, _, rfl, s1 _ _ h1, lk_none noC, p, sd, nd, cs, r, ls, rfl, lay.same s1, fun d hd => ?_⟩
    generalize upd H fl (.lst []) = H1 at s1 m1 hd ⊢
    have few := g.few
    refine ⟨_, cellKv cs, cs.map Prod.fst, rfl, .inl upd_same, cell_keys cs, by rw [List.length_map]; omega, fun zs q1 hz1 hz2 hq1 => ?_⟩
    obtain rfl : zs = srt (cs.map Prod.fst) := srt_of hz1 hz2
    have s2 : Same H1 (upd (upd H1 d (.dK (cellKv cs))) q1 (.lst ((srt (cs.map Prod.fst)).map V.str))) := (same_new hd).trans (same_new hq1)
    have e2 : (upd (upd H1 d (.dK (cellKv cs))) q1 (.lst ((srt (cs.map Prod.fst)).map V.str))) q1 = some (.lst ((srt (cs.map Prod.fst)).map V.str)) := upd_same
    generalize (upd (upd H1 d (.dK (cellKv cs))) q1 (.lst ((srt (cs.map Prod.fst)).map V.str))) = H2 at s2 e2 ⊢
    have nfl : q1 ≠ fl := fun z => by
      have := s2 _ _ m1.at_
      rw [← z, e2] at this
      have := HO.lst.inj (Option.some.inj this)
      exact absurd this (by
        cases e : srt (cs.map Prod.fst) with
        | nil => exact absurd (List.length_eq_zero_iff.mp ((srt_perm _).length_eq.symm.trans (congrArg List.length e))) fun q => g.some (List.map_eq_nil_iff.mp q)
        | cons a b => simp)
    have znd := srt_perm (cs.map Prod.fst)
    have lq : qs.length = ls.length := by rw [← h5, List.length_map]
    have s02 := s1.trans s2
    have llen : ls.length ≤ 6 := by
      have := flat_len2 lo.ne
      rw [lo.perm.length_eq, List.length_map] at this
      omega
    have wz : Walk (Itl K q1) (srt (cs.map Prod.fst)).length (fun H => SqL K H q1 ((srt (cs.map Prod.fst)).map V.str)) (YAt ((srt (cs.map Prod.fst)).map V.str)) := (walk_list (K := K) (a := q1) (xs := (srt (cs.map Prod.fst)).map V.str) |> fun z => by rw [List.length_map] at z; exact z)
    refine ⟨q1, rfl, ⟨_, SqL.of e2⟩, for_it wz (fun i σ H' => ∃ v2 v3 v4 v5 bs, σ = [some (.ref p), some (.ref fl), v2, v3, v4, v5] ∧ Same H H' ∧ H' q1 = some (.lst ((srt (cs.map Prod.fst)).map V.str)) ∧ MovesAt C H' fl cs r bs ∧ bs.map (fun b => (b.2.1, b.2.2.2)) = ((srt (cs.map Prod.fst)).take i).flatMap fun z => movesZ cs r ls z (ls.length + 1))
      ⟨_, _, _, _, [], rfl, s02, e2, m1.same s2, rfl⟩ (fun i σ H' _ ⟨_, _, _, _, _, _, _, e, _⟩ => SqL.of e) ?_ ?_⟩
    · rintro i x σ H3 H4 hi ⟨v2, v3, v4, v5, bs, rfl, s3, e3, m3, eq3⟩ ⟨rfl, hx⟩
      have hj : (srt (cs.map Prod.fst))[i]? = some (srt (cs.map Prod.fst))[i] := List.getElem?_eq_getElem hi
      generalize (srt (cs.map Prod.fst))[i] = z at hj
      rw [List.getElem?_map, hj] at hx
      obtain rfl : V.str z = x := Option.some.inj hx
      have hzin := znd.mem_iff.mp (List.mem_of_getElem? hj)
      have tk : (srt (cs.map Prod.fst)).take (i + 1) = (srt (cs.map Prod.fst)).take i ++ [z] := by rw [List.take_add_one, hj]; rfl
      have l3 : bs.length ≤ 42 := by
        have h1 := len_bind (n := 7) (l := (srt (cs.map Prod.fst)).take i) (f := fun z => movesZ cs r ls z (ls.length + 1)) fun z _ => by
          unfold movesZ
          refine Nat.le_trans (List.length_filterMap_le _ _) ?_
          rw [List.length_range]
          omega
        rw [← eq3, List.length_map, List.length_take] at h1
        have := znd.length_eq
        rw [List.length_map] at this
        omega
      refine ⟨_, rfl, p, C, dx, _, _, rfl, s3 _ _ h1, TL.cl, TL.nL, lk_lines, t, _, rfl, .inr (SqT.of (s3 _ _ h4.1)), ?_⟩
      rw [List.length_map, lq]
      refine ⟨_, _, rfl, rfl, _, rfl, by omega, by omega, ?_⟩
      rw [show ((ls.length : Int) + 1).toNat = ls.length + 1 by omega]
      refine for_it (walk_range (lo := 0) (n := ls.length + 1)) (fun j σ H' => ∃ v3 v4 v5 bs2, σ = [some (.ref p), some (.ref fl), some (.str z), v3, v4, v5] ∧ Same H H' ∧ H' q1 = some (.lst ((srt (cs.map Prod.fst)).map V.str)) ∧ MovesAt C H' fl cs r bs2 ∧ bs2.map (fun b => (b.2.1, b.2.2.2)) = bs.map (fun b => (b.2.1, b.2.2.2)) ++ movesZ cs r ls z j)
        ⟨_, _, _, bs, rfl, s3, e3, m3, by unfold movesZ; simp⟩ (fun _ _ _ _ _ => trivial) ?_ ?_
      · rintro j y σ H5 H6 hjl ⟨v3', v4', v5', bs2, rfl, s5, e5, m5, eq5⟩ ⟨rfl, rfl⟩
        have more : movesZ cs r ls z (j + 1) = movesZ cs r ls z j ++ ((moveL cs r ls z j).map fun m => (z, sortL (m.map srt))).toList := fm_range _ j
        have l5 : bs2.length ≤ 100 := by
          have := congrArg List.length eq5
          rw [List.length_map, List.length_append, List.length_map] at this
          have h2 : (movesZ cs r ls z j).length ≤ j := fm_range_len _ j
          omega
        refine ⟨_, rfl, p, dx, _, rfl, s5 _ _ h1, lk_none noM, _, rfl, _, rfl, p, sd, nd, cs, r, ls, _, _, rfl, lay.same s5, g, gs, r1, r32, lo, .inr ⟨z, some (j : Int), rfl, hzin, (show IntV K H6 (.int (0 + (j : Int))) (some (j : Int)) by rw [Int.zero_add]; exact .int _), fun hm H' s' => ?_, fun m hm q sd' nd' H' s' l' => ?_⟩⟩
        · rw [moveO_nat (by omega)] at hm
          refine ⟨true, EB.te, fun _ a ha => ?_, fun q => Bool.noConfusion q⟩
          refine ⟨_, rfl, rfl, _, rfl, iteF ⟨_, _, _, bs2, rfl, s5.trans s', s' _ _ e5, m5.same s', ?_⟩⟩
          rw [more, hm, eq5]
          simp
        · rw [moveO_nat (by omega)] at hm
          refine ⟨_, rfl, rfl, _, rfl, iteT ⟨_, rfl, .inl ⟨rfl, _, SqL.of (s' _ _ m5.at_)⟩, _, rfl, _, rfl, (by show 2 ≤ sizeLine; decide), fun t' ht' => ?_⟩⟩
          have s6 := s'.trans (same_new (o := .tup [.str z, .ref q]) ht')
          have l6 := l'.same (same_new (o := .tup [.str z, .ref q]) ht')
          have e6 : (upd H' t' (.tup [.str z, .ref q])) t' = some (.tup [.str z, .ref q]) := upd_same
          generalize upd H' t' (.tup [.str z, .ref q]) = H7 at s6 l6 e6 ⊢
          have m6 := m5.same s6
          refine ⟨fl, _, _, rfl, rfl, m6.at_, by rw [List.length_map, sizeLine_eq]; omega, ?_⟩
          refine ⟨_, _, _, bs2 ++ [(t', z, q, sortL (m.map srt))], rfl, same_at (s5.trans s6) hfl, ?_, m6.more e6 l6, ?_⟩
          · rw [upd_ne nfl]
            exact s6 _ _ e5
          · rw [more, hm, List.map_append, eq5, List.append_assoc]
            rfl
      · rintro σ H5 ⟨v3', v4', v5', bs2, rfl, s5, e5, m5, eq5⟩
        exact ⟨_, _, _, _, bs2, rfl, s5, e5, m5, by rw [eq5, eq3, tk, List.flatMap_append]; simp⟩
    · rintro σ H4 ⟨v2, v3, v4, v5, bs, rfl, s3, e3, m3, eq3⟩
      rw [List.take_of_length_le (Nat.le_refl _)] at eq3
      exact ⟨_, rfl, k fl bs H4 s3 m3 eq3⟩
end
end Vf

set_option maxRecDepth 100000
set_option maxHeartbeats 16000000
namespace Vf
open PySem PySem.Spec PyProof.Rows L2
theorem shaped_nil : SeqAt.shaped (.list []) = true := by decide +kernel
theorem eqv_nil {ds : List PyData} : PyData.eqv (.list ds) (.list []) = decide (ds = []) := by
  cases ds <;> simp [PyData.eqv, PyData.eqvAll]
section
variable {P : Program} {w : World} {K : PySem.W.Frag} {mg : Str → Option Value} {base : Heap}
def sp_law_back (C : Addr) : Sp := fun vs H Q _ => ∃ (p sd nd q sd' nd' : Addr) (cs : List (Str × Nat)) (r : Nat) (ls ws : List (List Str)) (z : Str) (i : Nat) (m : List (List Str)), vs = [.ref p, .str z, .ref q] ∧ LayAt C H p sd nd cs r ls ∧ LayAt C H q sd' nd' cs r ws ∧ GoodCs cs ∧ srtCs cs = cs ∧ 1 ≤ r ∧ r ≤ 32 ∧ LsOk cs r ls ∧
  z ∈ cs.map Prod.fst ∧ i ≤ ls.length ∧ moveL cs r ls z i = some m ∧ ws = sortL (m.map srt) ∧ ∀ x sd nd H', Same H H' → LayAt C H' x sd nd cs r ls → Q (.ref x) H'
theorem ok_law_back {f C CE CB : Addr} {fd : FuncData} (F : Fun K "_law_back" "_law_back" s_law_back f fd) (T : Txt0 K mg) (TL : TxtL K mg C) (M : LayMv P w K mg base C CE CB) : FnOk P w K mg base CX0 7 f fd p_law_back (sp_law_back C) := by
  refine F.ok sc_law_back (fun vs H Q E h => ?_) (fun cdv A outer s H vs Q E hr h => ?_)
  · obtain ⟨p, sd, nd, q, sd', nd', cs, r, ls, ws, z, i, m, rfl, _⟩ := h
    rfl
  · obtain ⟨p, sd, nd, q, sd', nd', cs, r, ls, ws, z, i, m, rfl, lay, lay2, g, gs, r1, r32, lo, hz, hi, hm, hws, k⟩ := h
    obtain ⟨fl, fdl, ml, Fl, bl⟩ := M.line
    obtain ⟨fm, fdm, mm, Fm, bm⟩ := M.moved
    have hr1 : Room 1 _ := hr.mono (by decide)
    refine ⟨_, pss_cons (ps_setLc (i := 3) (own := [("name", 4)]) (g := gName 4) rfl sc_law_back.nd rfl rfl (sw_true rfl rfl rfl (by decide +kernel)) (pi_tup (pe_ix ix_tup (pe_fld (pv 0) rfl) (pe_meth (pv 0) TL.cl ml Fl hr1 bl .nil pass0 (pa_cons (pv 1) pa_nil)) (fun _ _ => rfl))) (blkOk_by (N := n_law_back) (sc := defScope s_law_back) (by decide +kernel))
          (fun _ _ _ _ _ => pg_name (i := 4) sc_law_back.nd rfl (Or.inl rfl)) (fun _ _ _ _ _ => pts_one (pt_cmpR op_ne (pv 4) (pv 1) (nomark _))) (fun _ _ _ _ _ => pv 4))
      (pss_cons (ps_if (pt_cmpR (op_eqD hr.units) (pv 3) (pe_lst pa_nil) (nomark _))
        (pss_one (ps_ret (pe_meth (E := E0) (pv 2) TL.cl mm Fm hr bm .nil passE0 (pa_cons (pv 1) (pa_cons (pe_callB (cr_len (K := K) rfl) (by rfl) T.len PySem.boot_len (pa_cons (pe_fld (pv 2) rfl) pa_nil)) pa_nil))))) pss_nil)
      (pss_one (ps_ret (pe_meth (E := E0) (pv 2) TL.cl mm Fm hr bm .nil passE0 (pa_cons (pv 1) (pa_cons (pe_meth (pv 2) TL.cl ml Fl hr1 bl .nil pass0 (pa_cons (pe_ix ix_list (pv 3) pe_int (fun _ _ => rfl)) pa_nil)) pa_nil)))))), ?_⟩
    have noL : ¬ (("line_of" : Str)) = "_sizes" ∧ ¬ (("line_of" : Str)) = "room" ∧ ¬ (("line_of" : Str)) = "lines" ∧ ¬ (("line_of" : Str)) = "_numbers" := by decide +kernel
    have noM : ¬ (("moved" : Str)) = "_sizes" ∧ ¬ (("moved" : Str)) = "room" ∧ ¬ (("moved" : Str)) = "lines" ∧ ¬ (("moved" : Str)) = "_numbers" := by decide +kernel
    have lo2 : LsOk cs r ws := hws ▸ move_ok g lo hz hi hm
    obtain ⟨dx, t, qs, h1, h2, h3, h4, h5⟩ := id lay
    obtain ⟨l, hl, hzl⟩ := lo.line hz
    obtain ⟨j, hj⟩ := List.mem_iff_getElem?.mp hl
    obtain ⟨b, hb⟩ : ∃ b, qs[j]? = some (b, l) := by
      rw [← h5, List.getElem?_map] at hj
      cases e : qs[j]? with
      | none => rw [e] at hj; cases hj
      | some q =>
        rw [e] at hj
        exact ⟨q.1, by rw [← Option.some.inj hj]⟩
    have hbt := h4.2 _ (List.mem_of_getElem? hb)
    have few := g.few
    have ll : l.length ≤ 6 := by
      have := (List.sublist_flatten_of_mem hl).length_le
      rw [lo.perm.length_eq, List.length_map] at this
      omega
    have wt : Walk (Itt K b) l.length (fun H => SqT K H b (l.map V.str)) (YAt (l.map V.str)) := (walk_tup (K := K) (a := b) (xs := l.map V.str) |> fun z => by rw [List.length_map] at z; exact z)
    refine ⟨_, rfl, p, C, dx, _, _, rfl, h1, TL.cl, TL.nL, lk_lines, _, rfl, p, dx, _, rfl, h1, lk_none noL, _, rfl, p, sd, nd, cs, r, ls, z, j, rfl, lay, num_val (lo.nd g) hj hzl, ?_⟩
    refine ⟨t, _, _, .ref b, rfl, rfl, SqT.of h4.1, atI_nat (j := j) (by rw [List.getElem?_map, hb]; rfl), ?_⟩
    refine ⟨b, rfl, ⟨_, SqT.of hbt⟩, fun D hD => lc_fm l wt hD (fun y => if decide (y ≠ z) = true then some (.str y) else none) (by omega) (fun H5 s5 => SqT.of (s5 _ _ hbt)) ?_ ?_⟩
    · rintro i' y x H2 H3 hy s2 ⟨rfl, hx⟩ R hR
      rw [List.getElem?_map, hy] at hx
      obtain rfl : V.str y = x := Option.some.inj hx
      refine ⟨rfl, _, rfl, _, rfl, rfl, _, rfl, ?_⟩
      by_cases e : y = z
      · rw [if_neg (by simp [e])] at hR
        rw [if_neg (by simp [e])]
        exact hR _ (Same.refl _)
      · rw [if_pos (by simp [e])] at hR
        rw [if_pos (by simp; exact e)]
        exact ⟨_, rfl, hR _ (Same.refl _)⟩
    · intro H2 s2 hD2
      have emine : (l.filterMap fun y => if decide (y ≠ z) = true then some (V.str y) else none) = (l.filter fun y => decide (y ≠ z)).map V.str := by
        clear hzl hj hb hbt ll wt hl hD2
        induction l with
        | nil => rfl
        | cons a l ih =>
          by_cases e : a = z
          · rw [List.filter_cons_of_neg (by simp [e]), List.filterMap_cons_none (by simp [e]), ih]
          · rw [List.filter_cons_of_pos (by simp [e]), List.filterMap_cons_some (b := V.str a) (by simp [e]), List.map_cons, ih]
      rw [emine] at hD2
      have lay2' := lay2.same s2
      refine ⟨_, rfl, Nat.zero_le _, fun e1 he1 => ?_⟩
      have s3 := s2.trans (same_new (o := .lst []) he1)
      have hD3 := same_new (o := .lst []) he1 _ _ hD2
      have lay3 := lay2'.same (same_new (o := .lst []) he1)
      refine ⟨.list ((l.filter fun y => decide (y ≠ z)).map PyData.str), .list [], .lst (SqL.of hD3) (dp_strs _), .lst (SqL.of upd_same) .nil, shaped_strs fun y hy => ?_, shaped_nil, _, rfl, ?_⟩
      · have hyl := (mem_drop.mp hy).1
        obtain ⟨c, hc, rfl⟩ := List.mem_map.mp (lo.perm.mem_iff.mp (List.mem_flatten.mpr ⟨l, hl, hyl⟩))
        exact ok_name (g.name c hc)
      generalize upd H2 e1 (.lst []) = H3 at s3 hD3 lay3 ⊢
      rw [eqv_nil]
      obtain ⟨dx2, t2, qs2, u1, u2, u3, u4, u5⟩ := id lay3
      have lq2 : qs2.length = ws.length := by rw [← u5, List.length_map]
      cases em : l.filter (fun y => decide (y ≠ z)) with
      | nil =>
        obtain ⟨m', hm', em'⟩ := move_back (ws := ws) g lo hz hi hm hl hzl hws (Nat.le_refl _) fun y hy => by
          have gd : ws.getD ws.length [] = [] := by rw [List.getD_eq_getElem?_getD, List.getElem?_eq_none (Nat.le_refl _)]; rfl
          rw [gd]
          refine ⟨fun q => (nomatch q), fun hy2 => ?_⟩
          have := mem_drop.mpr ⟨hy2, hy⟩
          rw [em] at this
          cases this
        refine iteT ⟨_, rfl, q, dx2, _, rfl, u1, lk_none noM, _, rfl, _, rfl, q, C, dx2, _, _, rfl, u1, TL.cl, TL.nL, lk_lines, t2, _, rfl, .inr (SqT.of u4.1), ?_⟩
        rw [List.length_map, lq2]
        refine ⟨q, sd', nd', cs, r, ws, .str z, .int (ws.length : Int), rfl, lay3, g, gs, r1, r32, lo2, .inr ⟨z, some (ws.length : Int), rfl, hz, .int _, fun hn => ?_, fun m2 hm2 x sx nx H4 s4 l4 => ?_⟩⟩
        · rw [moveO_nat (Nat.le_refl _), hm'] at hn
          cases hn
        · rw [moveO_nat (Nat.le_refl _), hm'] at hm2
          obtain rfl := Option.some.inj hm2
          rw [em'] at l4
          exact k x sx nx H4 (s3.trans s4) l4
      | cons x0 rest =>
        have hx := mem_drop.mp (em ▸ List.mem_cons_self : x0 ∈ l.filter (fun y => decide (y ≠ z)))
        have hxn : x0 ∈ cs.map Prod.fst := lo.perm.mem_iff.mp (List.mem_flatten.mpr ⟨l, hl, hx.1⟩)
        obtain ⟨u, hu, hxu⟩ := lo2.line hxn
        obtain ⟨j2, hj2⟩ := List.mem_iff_getElem?.mp hu
        have jl := Nat.le_of_lt (List.getElem?_eq_some_iff.mp hj2).1
        obtain ⟨m', hm', em'⟩ := move_back (ws := ws) g lo hz hi hm hl hzl hws jl (line_back g lo hz hi hm hl hws hx.1 hx.2 hj2 hxu)
        rw [em] at hD3
        refine iteF ⟨_, rfl, q, dx2, _, rfl, u1, lk_none noM, _, rfl, _, rfl, q, dx2, _, rfl, u1, lk_none noL, _, rfl, D, _, _, .str x0, rfl, rfl, SqL.of hD3, atI_nat (j := 0) rfl, q, sd', nd', cs, r, ws, x0, j2, rfl, lay3, num_val (lo2.nd g) hj2 hxu, ?_⟩
        refine ⟨q, sd', nd', cs, r, ws, .str z, .int (j2 : Int), rfl, lay3, g, gs, r1, r32, lo2, .inr ⟨z, some (j2 : Int), rfl, hz, .int _, fun hn => ?_, fun m2 hm2 x sx nx H4 s4 l4 => ?_⟩⟩
        · rw [moveO_nat jl, hm'] at hn
          cases hn
        · rw [moveO_nat jl, hm'] at hm2
          obtain rfl := Option.some.inj hm2
          rw [em'] at l4
          exact k x sx nx H4 (s3.trans s4) l4
end
end Vf

set_option maxRecDepth 100000
set_option maxHeartbeats 4000000
namespace Vf
open PySem PySem.Spec PyProof.Rows L2
abbrev NK := PySem.NestedKey
abbrev nk (P : Program) (w : World) : HeapKind P w NK := PySem.nestedKind P w
/-- the dict at a, by its entries -/
def NDo (P : Program) (w : World) (a : Addr) (xs : List (NK × Addr × Value)) : HO :=
  .ext fun h => ∃ o es ep, h.get? a = some o ∧ o.ExactDict ∧ o.data = .dict es ep ∧ es.toList = xs.map (entryOfKey (nk P w)) ∧ (xs.map (·.1)).Nodup
theorem ndo_ok {P : Program} {w : World} {H : Hp} {h : Heap} {a : Addr} {xs : List (NK × Addr × Value)} (e : h.DictOfH (nk P w) a xs) : ObjOk P w H h a (NDo P w a xs) := by
  obtain ⟨o, es, ep, h1, h2, h3, h4, _, h5⟩ := e
  refine ⟨⟨o, es, ep, h1, h2, h3, h4, h5⟩, ⟨o, h1⟩, fun k1 k2 ⟨o', es', ep', g1, g2, g3, g4, g5⟩ st => ⟨o', es', ep', st _ g1, g2, g3, g4, g5⟩⟩
/-- such a key in the heap -/
inductive KeyV (H : Hp) : V → NK → Prop
  | non : KeyV H .non .none
  | int (i : Int) : KeyV H (.int i) (.num i)
  | bl (b : Bool) : KeyV H (.bl b) (.num (if b = true then 1 else 0))
  | str (x : Str) : KeyV H (.str x) (.text x)
  | tup {a : Addr} {xs : List V} {ks : List NK} : H a = some (.tup xs) → xs.length = ks.length → (∀ (i : Nat) (x : V) (k : NK), xs[i]? = some x → ks[i]? = some k → KeyV H x k) → KeyV H (.ref a) (.tup ks)
theorem KeyV.same {H H' : Hp} (s : ∀ c ys, H c = some (.tup ys) → H' c = some (.tup ys)) {v : V} {k : NK} (h : KeyV H v k) : KeyV H' v k := by
  induction h with
  | non => exact .non
  | int i => exact .int i
  | bl b => exact .bl b
  | str x => exact .str x
  | tup e l _ ih => exact .tup (s _ _ e) l ih
/-- a tuple's, not too deep -/
structure NestH (H : Hp) (b : Addr) (k : NK) : Prop where
  key : KeyV H (.ref b) k
  low : k.depth ≤ 8
theorem NestH.same {H H' : Hp} {b : Addr} {k : NK} (h : NestH H b k) (s : ∀ c ys, H c = some (.tup ys) → H' c = some (.tup ys)) : NestH H' b k := ⟨h.key.same s, h.low⟩
theorem nested_all {h : Heap} : ∀ {xs : List V} {its : List Value} {ks : List NK}, Vals xs its → xs.length = ks.length → (∀ (i : Nat) (x : V) (k : NK), xs[i]? = some x → ks[i]? = some k → ∀ u, RelV x u → NestedIs h k u) → NestedAll h ks its
  | [], _, [], r, _, _ => by
    cases r
    exact .nil
  | [], _, _ :: _, _, l, _ => by simp at l
  | _ :: _, _, [], _, l, _ => by simp at l
  | x :: xs, _, k :: ks, r, l, f => by
    cases r with
    | cons r1 r2 => exact .cons (f 0 x k rfl rfl _ r1) (nested_all r2 (by simpa using l) fun i y m h1 h2 => f (i + 1) y m (by simpa using h1) (by simpa using h2))
theorem KeyV.is {P : Program} {w : World} {H : Hp} {h : Heap} (ok : HOk P w H h) {v : V} {k : NK} (x : KeyV H v k) : ∀ u, RelV v u → NestedIs h k u := by
  induction x with
  | non =>
    intro u r
    cases r
    exact .none
  | int i =>
    intro u r
    obtain ⟨t, rfl⟩ := r
    exact .int i t
  | bl b =>
    intro u r
    cases r
    exact .bool rfl
  | str x =>
    intro u r
    obtain ⟨t, rfl⟩ := r
    exact .text x t
  | @tup a xs ks e l _ ih =>
    intro u r
    cases r
    obtain ⟨_, its, rv, o, e1, e2, n, e3⟩ := (show ObjOk P w H h a (.tup xs) from ok a _ e)
    exact .tup e1 e2 e3 (nested_all rv l ih)
theorem NestH.is {P : Program} {w : World} {H : Hp} {h : Heap} {b : Addr} {k : NK} (ok : HOk P w H h) (x : NestH H b k) : (nk P w).is h k b := ⟨x.key.is ok _ rfl, x.low⟩
abbrev KN (H : Hp) : List (NK × V) → List (NK × Addr × Value) → Prop := Paired fun p q => p.1 = q.1 ∧ NestH H q.2.1 p.1 ∧ RelV p.2 q.2.2
theorem KN.val {H : Hp} {kvs : List (NK × V)} {xs : List (NK × Addr × Value)} (r : KN H kvs xs) (k : NK) : RelO (valV kvs k) ((atKey xs k).map (·.2)) := by
  induction r with
  | nil => exact True.intro
  | @cons p q ps qs h t ih =>
    obtain ⟨h1, _, h2⟩ := h
    by_cases e : p.1 = k
    · have b : atKey (q :: qs) k = some q.2 := by simp [atKey, List.find?_cons, h1.symm.trans e]
      rw [valV_pos e, b]
      exact h2
    · have b : atKey (q :: qs) k = atKey qs k := by
        have e' : ¬ q.1 = k := fun z => e (h1.trans z)
        simp [atKey, List.find?_cons, e']
      rw [valV_neg e, b]
      exact ih
theorem KN.put {H : Hp} {kvs : List (NK × V)} {xs : List (NK × Addr × Value)} (r : KN H kvs xs) (k : NK) {b : Addr} {y : V} {u : Value} (hb : NestH H b k) (ry : RelV y u) : KN H (putK kvs k y) (storedH xs k b u) := by
  have e : (kvs.any fun kv => decide (kv.1 = k)) = (atKey xs k).isSome := by rw [valV_any, (KN.val r k).isSome_eq, Option.isSome_map]
  unfold putK storedH
  rw [e]
  by_cases q : (atKey xs k).isSome = true
  · rw [if_pos q, if_pos q]
    clear e q
    induction r with
    | nil => exact .nil
    | @cons p q ps qs h t ih =>
      rw [List.map_cons, List.map_cons]
      obtain ⟨h1, h2, h3⟩ := h
      refine .cons ?_ ih
      unfold PySem.putAt
      by_cases e : p.1 = k
      · rw [if_pos e, if_pos (h1.symm.trans e)]
        exact ⟨h1, h2, ry⟩
      · rw [if_neg e, if_neg (fun z => e (h1.trans z))]
        exact ⟨h1, h2, h3⟩
  · rw [if_neg q, if_neg q]
    exact Paired.snoc r ⟨rfl, hb, ry⟩
theorem KN.keeps {H H' : Hp} {kvs : List (NK × V)} {xs : List (NK × Addr × Value)} (r : KN H kvs xs) (s : ∀ c ys, H c = some (.tup ys) → H' c = some (.tup ys)) : KN H' kvs xs := Paired.mapP r fun _ _ z => ⟨z.1, z.2.1.same s, z.2.2⟩
/-- the dict at a holds kvs -/
structure ND (P : Program) (w : World) (H : Hp) (a : Addr) (kvs : List (NK × V)) : Prop where
  fits : kvs.length ≤ sizeLine
  nosys : (a == sysModules) = false
  ex : ∃ xs, H a = some (NDo P w a xs) ∧ KN H kvs xs
theorem ndo_ne {P : Program} {w : World} {a : Addr} {xs : List (NK × Addr × Value)} {ys : List V} : NDo P w a xs ≠ .tup ys := fun z => by
  unfold NDo at z
  cases z
theorem ND.same {P : Program} {w : World} {H H' : Hp} {a : Addr} {kvs : List (NK × V)} (d : ND P w H a kvs) (s : Same H H') : ND P w H' a kvs := by
  obtain ⟨h1, h2, xs, h3, h4⟩ := d
  exact ⟨h1, h2, xs, s _ _ h3, h4.keeps fun c ys e => s _ _ e⟩
theorem KN.is {P : Program} {w : World} {H : Hp} {h : Heap} (ok : HOk P w H h) : ∀ {kvs : List (NK × V)} {xs : List (NK × Addr × Value)}, KN H kvs xs → ∀ x ∈ xs, (nk P w).is h x.1 x.2.1
  | _, _, .nil => fun x hx => nomatch hx
  | _, _, .cons hq t => fun x hx => by
    rcases List.mem_cons.mp hx with rfl | hx
    · exact NestH.is ok (hq.1 ▸ hq.2.1)
    · exact KN.is ok t x hx
theorem ND.of {P : Program} {w : World} {H : Hp} {h : Heap} {a : Addr} {kvs : List (NK × V)} (ok : HOk P w H h) (d : ND P w H a kvs) : ∃ xs, KN H kvs xs ∧ h.DictOfH (nk P w) a xs ∧ H a = some (NDo P w a xs) := by
  obtain ⟨_, _, xs, h3, h4⟩ := d
  obtain ⟨⟨o, es, ep, g1, g2, g3, g4, g5⟩, _, _⟩ := (show ObjOk P w H h a (NDo P w a xs) from ok a _ h3)
  exact ⟨xs, h4, ⟨o, es, ep, g1, g2, g3, g4, KN.is ok h4, g5⟩, h3⟩
section
variable {X : Cx}
/-- {} -/
def tDNewN (P : Program) (w : World) : TE := fun _ H Q => ∀ p, H p = none → ND P w (upd H p (NDo P w p [])) p [] → Q (.ref p) (upd H p (NDo P w p []))
theorem pe_dnewN {pos : Pos} : PE X (.Dict [] [] pos) (tDNewN X.prog X.w) := ⟨fun pins s σ H Q I h => by
  have hn := I.hok.fresh (Nat.le_refl s.heap.objs.size)
  have nos : (s.heap.objs.size == sysModules) = false := beq_eq_false_iff_ne.mpr (Ne.symm (Nat.ne_of_lt I.big))
  have d : (s.heap.push { cls := .type "dict", data := .dict #[] }).DictOfH (nk X.prog X.w) s.heap.objs.size [] := ⟨_, #[], 0, Heap.get?_push_size _ rfl, ⟨rfl, rfl, rfl⟩, rfl, rfl, fun x hx => (nomatch hx), List.nodup_nil⟩
  exact wpAny_Dict_empty ⟨.ref s.heap.objs.size, _, I.laid (a := s.heap.objs.size) (o := NDo X.prog X.w s.heap.objs.size []) (t' := s.toks) (fun _ _ q => Heap.get?_push_of_some _ q) (Nat.le_refl _) (ndo_ok d), rfl, h _ hn ⟨Nat.zero_le _, nos, [], upd_same, .nil⟩⟩⟩
/-- k in d, k not in d -/
def rInN (P : Program) (w : World) (neg : Bool) : R2 := fun x y H Q => ∃ a b kvs k, x = .ref b ∧ y = .ref a ∧ ND P w H a kvs ∧ NestH H b k ∧ Q (.bl (if neg then !(valV kvs k).isSome else (valV kvs k).isSome)) H
theorem op_inN (hu : X.A.units + 16 < cLine) : OpR X (compareOp .In) (rInN X.prog X.w false) := by
  intro pins s σ H x y v u Q I rx ry h
  obtain ⟨a, b, kvs, k, rfl, rfl, d, hk, q⟩ := h
  cases rx
  cases ry
  obtain ⟨xs, rel, dd, _⟩ := d.of I.hok
  refine wpAny_in_heap (knd := nk X.prog X.w) (by show X.A.units + 1 + 8 < cLine; omega) (hk.is I.hok) d.nosys dd ?_
  have e := (KN.val rel k).isSome_eq
  rw [Option.isSome_map] at e
  rw [← e]
  exact ⟨.bl _, H, I.tok _, rfl, q⟩
theorem op_notInN (hu : X.A.units + 16 < cLine) : OpR X (compareOp .NotIn) (rInN X.prog X.w true) := by
  intro pins s σ H x y v u Q I rx ry h
  obtain ⟨a, b, kvs, k, rfl, rfl, d, hk, q⟩ := h
  cases rx
  cases ry
  obtain ⟨xs, rel, dd, _⟩ := d.of I.hok
  refine wpAny_notIn_heap (knd := nk X.prog X.w) (by show X.A.units + 1 + 8 < cLine; omega) (hk.is I.hok) d.nosys dd ?_
  have e := (KN.val rel k).isSome_eq
  rw [Option.isSome_map] at e
  rw [← e]
  exact ⟨.bl _, H, I.tok _, rfl, q⟩
/-- d[k] -/
def rIxN (P : Program) (w : World) : R2 := fun x y H Q => ∃ a b kvs k v, x = .ref a ∧ y = .ref b ∧ ND P w H a kvs ∧ NestH H b k ∧ valV kvs k = some v ∧ Q v H
theorem pe_dgetN {o i : Expr} {pos : Pos} {td ty : TE} (hu : X.A.units + 16 < cLine) (ho : PE X o td) (hi : PE X i ty) (hs : NoSl i) : PE X (.Subscript o i pos) (tOp (rIxN X.prog X.w) td ty) := by
  refine ⟨fun pins s σ H Q I h => ?_⟩
  refine subD_of PySem.F.slot_dict_getitem.lookup hs (thn (ho.run pins s σ H _ I h) fun u s1 ⟨x, H1, I1, rx, q1⟩ => thn (hi.run pins s1 σ H1 _ I1 q1) fun iv s2 ⟨y, H2, I2, ry, a, b, kvs, k, z, ex, ey, d, hk, l, q2⟩ => ?_)
  subst ex ey
  obtain rfl : u = Value.ref a := rx
  obtain rfl : iv = Value.ref b := ry
  obtain ⟨xs, rel, dd, _⟩ := d.of I2.hok
  obtain ⟨w', hw, rw'⟩ := RelO.some_of (v := z) (o := (atKey xs k).map (·.2)) (by rw [← l]; exact KN.val rel k)
  obtain ⟨p, hp, hp2⟩ := Option.map_eq_some_iff.mp hw
  refine ⟨dd.typeIs, wpAny_getItem_heap (knd := nk X.prog X.w) (by show X.A.units + 1 + 8 < cLine; omega) (hk.is I2.hok) dd hp ?_⟩
  rw [hp2]
  exact ⟨z, H2, I2.tok _, rw', q2⟩
/-- d[k] = v -/
def rSetN (P : Program) (w : World) : V → V → V → Hp → (Hp → Prop) → Prop := fun o i v H Q => ∃ a b kvs k, o = .ref a ∧ i = .ref b ∧ ND P w H a kvs ∧ NestH H b k ∧ kvs.length < sizeLine ∧
  ∀ u, ND P w (upd H a u) a (putK kvs k v) → Q (upd H a u)
theorem set_nest (hu : X.A.units + 16 < cLine) : PSet X (rSetN X.prog X.w) := by
  intro pins s σ H o i v ov iv u Q I ro ri rv h
  obtain ⟨a, b, kvs, k, rfl, rfl, d, hk, lt, q⟩ := h
  cases ro
  cases ri
  obtain ⟨xs, rel, dd, ea⟩ := d.of I.hok
  have hz : xs.length ≤ sizeLine := by
    rw [← Paired.length rel]
    exact d.fits
  have hl : (putK kvs k v).length ≤ sizeLine := by
    have := length_putK kvs k v
    omega
  refine wpAny_setItem_heap (knd := nk X.prog X.w) (hsz := hz) (by show X.A.units + 1 + 8 < cLine; omega) (hk.is I.hok) dd fun h' dd' hs => ?_
  have st : ∀ c ys, H c = some (.tup ys) → (upd H a (NDo X.prog X.w a (storedH xs k b u))) c = some (.tup ys) := fun c ys e => by
    rw [upd_ne (ne_of e ea (fun z => ndo_ne z.symm))]
    exact e
  have he : ∃ q, h'.get? a = some q := let ⟨q, _, _, hq, _⟩ := dd'; ⟨q, hq⟩
  exact ⟨_, d_write I (by rw [ea]; exact True.intro) hs he (ndo_ok dd'), q _ ⟨hl, d.nosys, _, upd_same, (KN.put rel k hk rv).keeps st⟩⟩
end
end Vf

set_option maxRecDepth 100000
set_option maxHeartbeats 4000000
namespace Vf
open PySem PySem.Spec PyProof.Rows L2
/-- the keys of the locked dict at d, each key's own tuple -/
def Itkn (P : Program) (w : World) (d : Addr) (o : Obj) (xs : List (NK × Addr × Value)) : It :=
  ⟨fun i H => H d = some (.frz o (NDo P w d xs)) ∧ i < xs.length, fun i H x H' => H' = H ∧ ∃ k q v, xs[i]? = some (k, q, v) ∧ x = .ref q, fun i H => H d = some (.frz o (NDo P w d xs)) ∧ xs.length ≤ i⟩
theorem frzN {X : Cx} {pins : List (Addr × Obj)} {σ : L2.St} {H : Hp} {s : Shared} {d : Addr} {o : Obj} {xs : List (NK × Addr × Value)} (I : Inv X pins σ H s) (h : H d = some (.frz o (NDo X.prog X.w d xs))) :
    s.heap.get? d = some o ∧ o.ExactDict ∧ ∃ (es : Array DictEntry) (ep : Nat), o.data = .dict es ep ∧ es.size = xs.length ∧ es.toList = xs.map (entryOfKey (nk X.prog X.w)) := by
  obtain ⟨hd, ⟨o', es, ep, ho, hx, hdt, he, _⟩, _⟩ := I.hok d _ h
  rw [hd] at ho
  cases ho
  refine ⟨hd, hx, es, ep, hdt, ?_, he⟩
  rw [← Array.length_toList, he, List.length_map]
section
variable {P : Program} {w : World} {K : PySem.W.Frag} {tg : Expr} {d : Addr} {o : Obj} {es : Array DictEntry} {ep : Nat}
theorem turn_keysN {xs : List (NK × Addr × Value)} (it : Addr) (hod : o.data = .dict es ep) : Turn P w K tg (Itkn P w d o xs) [it] it (fun i h => h.IsKeyIter it d i xs.length ep) where
  mem := by simp
  obj := fun i h st b hb => by
    have e : b = it := by simpa using hb
    subst e
    obtain ⟨oi, e, c, dd⟩ := st
    exact ⟨oi, e, fun v z => by rw [dd] at z; cases z⟩
  keep := fun i h h' st k => st.at fun oi e => k it (by simp) oi e
  item := by
    intro X hP hw hK hc i pins s σ H E I hf st hg
    subst hP hw hK
    obtain ⟨hd, hi⟩ := hg
    obtain ⟨f0, f1, f2, f3, f4, f5⟩ := hf it (by simp)
    obtain ⟨hgd, hx, es', ep', hdt, hsz, he⟩ := frzN I hd
    obtain ⟨rfl, rfl⟩ := dict_ep hod hdt
    obtain ⟨⟨k, q, v⟩, hkv⟩ : ∃ p, xs[i]? = some p := ⟨xs[i], List.getElem?_eq_getElem hi⟩
    have hen : es'[i]? = some (entryOfKey (nk X.prog X.w) (k, q, v)) := by
      rw [entry_at he, hkv]
      rfl
    refine next_key_item st hgd hdt hsz hen fun h' st' sb => ?_
    have I1 : Inv X pins σ H { s with heap := h' } := I.turned (t' := s.toks) (fun b ob hb e => (sb.2 b hb).trans e) f0 f1 f3 f4 f5
    obtain ⟨oi, e, c, dd⟩ := id st'
    exact ⟨.ref q, rfl, go_of (s := { s with heap := h' }) e c dd (by decide) ⟨.ref q, H, I1, rfl, ⟨rfl, k, q, v, hkv, rfl⟩, st', fun b hb => (hf b hb).1⟩⟩
  done := by
    intro X hP hw hK hc i pins s σ H E I hf st hg
    subst hP hw hK
    obtain ⟨hd, hi⟩ := hg
    obtain ⟨f0, f1, f2, f3, f4, f5⟩ := hf it (by simp)
    obtain ⟨hgd, hx, es', ep', hdt, hsz, he⟩ := frzN I hd
    obtain ⟨rfl, rfl⟩ := dict_ep hod hdt
    exact next_key_end (I.ok.hd hc) st hgd hdt hsz hi fun h' eb => ⟨rfl, I.turned (t' := s.toks) (fun b ob hb e => eb b ob hb e) f0 f1 f3 f4 f5⟩
  self := fun A i s Q E st h => wpAny_pyIter_keyiter st h
theorem walk_keysN {xs : List (NK × Addr × Value)} : Walk (Itkn P w d o xs) xs.length (fun H => H d = some (.frz o (NDo P w d xs))) (fun i H x H' => H' = H ∧ ∃ k q v, xs[i]? = some (k, q, v) ∧ x = .ref q) :=
  ⟨fun _ _ hi h => ⟨h, hi⟩, fun _ h => ⟨h, Nat.le_refl _⟩, fun _ _ _ _ _ _ y => y⟩
end
/-- the dict is locked -/
def iKeysN (P : Program) (w : World) (td : TE) : TI := fun σ H R => td σ H fun x H1 => ∃ d o xs, x = .ref d ∧ (d == sysModules) = false ∧ H1 d = some (.frz o (NDo P w d xs)) ∧ R (Itkn P w d o xs) H1
theorem pi_keysN {X : Cx} {tg e : Expr} {td : TE} (he : PE X e td) : PI X tg e (iKeysN X.prog X.w td) := by
  refine ⟨fun pins s σ H R I h => ?_⟩
  refine thn (he.run pins s σ H _ I h) fun u s1 ⟨x, H1, I1, rx, d, o, xs, ex, nos, hd, q⟩ => ?_
  subst ex
  obtain rfl : u = Value.ref d := rx
  obtain ⟨hgd, hx, es, ep, hdt, hsz, _⟩ := frzN I1 hd
  refine iter_keys nos hgd hx hdt (pi_one (tk := s1.toks) I1 _ (turn_keysN _ hdt) ⟨_, Heap.get?_push_size _ rfl, rfl, ?_⟩ q)
  rw [hsz] <;> rfl
/-- len(d) -/
def rLenN (P : Program) (w : World) : List V → Hp → VK → Prop := fun vs H Q => ∃ a kvs, vs = [.ref a] ∧ ND P w H a kvs ∧ Q (.int (kvs.length : Nat)) H
end Vf

set_option maxRecDepth 100000
set_option maxHeartbeats 4000000
namespace Vf
open PySem PySem.Spec PyProof.Rows L2
section
variable {X : Cx}
theorem cr_lenN : CallR X (.builtin "len") (rLenN X.prog X.w) := by
  intro pins s σ H vs us Q I r h
  obtain ⟨a, kvs, rfl, d, q⟩ := h
  rw [Vals.ref1 r]
  obtain ⟨xs, rel, dd, _⟩ := d.of I.hok
  have hl : kvs.length = xs.length := Paired.length rel
  have fit := d.fits
  rw [sizeLine_eq] at fit
  have dk : s.heap.DictKeyed (nk X.prog X.w) a (pairsH xs) := ⟨xs, dd, rfl⟩
  refine Calls.call_function_entry kind_len plain_len entry_len (args_len1 _) ?_
  unfold Builtin.«len»
  refine wpAny_bind (m := oneArg "len" _) (wpAny_pure ?_)
  refine wpAny_bind (m := callSpecial? (.ref a) (Str.ofString "__len__")) (wpAny_callSpecial?_slot (name := Str.ofString "__len__") dd.typeIs PySem.F.slot_dict_len (len_keyed d.nosys dk ?_))
  rw [pairsH_length, ← hl]
  refine wpAny_bind (wpAny_holding (wpAny_pure ?_))
  refine wpAny_bind (wpAny_letGo ?_)
  show wpAny _ _ (if ((kvs.length : Nat) : Int) < 0 then _ else _) _ _ _
  rw [if_neg (by omega)]
  show wpAny _ _ (if ((kvs.length : Nat) : Int) ≥ 2 ^ 63 then _ else _) _ _ _
  rw [if_neg (by omega)]
  exact wpAny_bind (wpAny_mkInt (wpAny_pure ⟨_, rfl, .int _, H, I.tok _, ⟨_, rfl⟩, q⟩))
/-- {k: v}; the new dict stands empty while the pair is made -/
def tDisp1N (P : Program) (w : World) (tk tv : TE) : TE := fun σ H Q => ∀ p, H p = none → ND P w (upd H p (NDo P w p [])) p [] → tk σ (upd H p (NDo P w p [])) fun x H1 => tv σ H1 fun y H2 =>
  ∃ b k, x = .ref b ∧ NestH H2 b k ∧ H2 p = some (NDo P w p []) ∧ ∀ u, ND P w (upd H2 p u) p [(k, y)] → Q (.ref p) (upd H2 p u)
theorem pe_disp1N {ke ve : Expr} {pos : Pos} {tk tv : TE} (hu : X.A.units + 16 < cLine) (hk : PE X ke tk) (hv : PE X ve tv) : PE X (.Dict [some ke] [ve] pos) (tDisp1N X.prog X.w tk tv) := by
  refine ⟨fun pins s σ H Q I h => ?_⟩
  have hn := I.hok.fresh (Nat.le_refl s.heap.objs.size)
  have nos : (s.heap.objs.size == sysModules) = false := beq_eq_false_iff_ne.mpr (Ne.symm (Nat.ne_of_lt I.big))
  have d0 : (s.heap.push { cls := .type "dict", data := .dict #[] }).DictOfH (nk X.prog X.w) s.heap.objs.size [] := ⟨_, #[], 0, Heap.get?_push_size _ rfl, ⟨rfl, rfl, rfl⟩, rfl, rfl, fun x hx => (nomatch hx), List.nodup_nil⟩
  have I1 := I.laid (a := s.heap.objs.size) (o := NDo X.prog X.w s.heap.objs.size []) (t' := s.toks) (h' := s.heap.push { cls := .type "dict", data := .dict #[] }) (fun _ _ q => Heap.get?_push_of_some _ q) (Nat.le_refl _) (ndo_ok d0)
  have run := (pps_cons (pos := pos) hk hv pps_nil).run pins _ σ _ (fun ps H2 => match ps with | [(x, y)] => ∃ b k, x = V.ref b ∧ NestH H2 b k ∧ H2 s.heap.objs.size = some (NDo X.prog X.w s.heap.objs.size []) ∧ ∀ u, ND X.prog X.w (upd H2 s.heap.objs.size u) s.heap.objs.size [(k, y)] → Q (.ref s.heap.objs.size) (upd H2 s.heap.objs.size u) | _ => False) I1 (h _ hn ⟨Nat.zero_le _, nos, [], upd_same, .nil⟩)
  rw [arm_eval_Dict, zip_pairTrees [some ke] [ve] X.env pos rfl rfl, dictDisplay_pairs (pairTrees [some ke] [ve] X.env pos) (by simp [pairTrees]) (by simp [pairTrees])]
  refine wpAny_bind (wpAny_standAt (wpAny_bind (wpAny_subDictH (knd := nk X.prog X.w) (by show X.A.units + 8 < cLine; omega) (by simp [pairTrees]) (thn run fun ws s2 ⟨ps, H2, I2, rel, qq⟩ => ?_))))
  match ps, qq, rel with
  | [(x, y)], ⟨b, k, ex, hkk, e2, q⟩, .cons (b := (u1, u2)) r1 .nil =>
    subst ex
    obtain ⟨rx, ry⟩ := r1
    obtain rfl : u1 = Value.ref b := rx
    have emp : ND X.prog X.w H2 s.heap.objs.size [] := ⟨Nat.zero_le _, nos, [], e2, .nil⟩
    obtain ⟨xs, rel0, dd, _⟩ := emp.of I2.hok
    cases rel0
    refine ⟨[(k, b, u2)], ⟨rfl, rfl, hkk.is I2.hok, trivial⟩, dd, fun h' tk dd' hs => ?_⟩
    have he : ∃ q, h'.get? s.heap.objs.size = some q := let ⟨q, _, _, hq, _⟩ := dd'; ⟨q, hq⟩
    have st : ∀ c ys, H2 c = some (.tup ys) → (upd H2 s.heap.objs.size (NDo X.prog X.w s.heap.objs.size (storedAllH [] [(k, b, u2)]))) c = some (.tup ys) := fun c ys e => by
      rw [upd_ne (ne_of e e2 (fun z => ndo_ne z.symm))]
      exact e
    refine wpAny_pure ⟨.ref s.heap.objs.size, _, d_write I2 (by rw [e2]; exact True.intro) hs he (ndo_ok dd'), rfl, q _ ⟨by show 1 ≤ sizeLine; decide, nos, _, upd_same, ?_⟩⟩
    exact .cons ⟨rfl, hkk.same st, ry⟩ .nil
end
end Vf

set_option maxRecDepth 100000
set_option maxHeartbeats 4000000
namespace Vf
open PySem PySem.Spec PyProof.Rows L2
def lineK (ws : List Str) : NK := .tup (ws.map PySem.NestedKey.text)
def wayK (ls : List (List Str)) : NK := .tup (ls.map lineK)
theorem text_inj : ∀ {a b : List Str}, a.map PySem.NestedKey.text = b.map PySem.NestedKey.text → a = b
  | [], [], _ => rfl
  | [], _ :: _, h => by simp at h
  | _ :: _, [], h => by simp at h
  | x :: a, y :: b, h => by
    rw [List.map_cons, List.map_cons] at h
    injection h with h1 h2
    injection h1 with h1
    rw [h1, text_inj h2]
theorem wayK_inj {a b : List (List Str)} (h : wayK a = wayK b) : a = b := by
  unfold wayK at h
  injection h with h
  induction a generalizing b with
  | nil =>
    cases b with
    | nil => rfl
    | cons y b => simp at h
  | cons x a ih =>
    cases b with
    | nil => simp at h
    | cons y b =>
      rw [List.map_cons, List.map_cons] at h
      injection h with h1 h2
      unfold lineK at h1
      injection h1 with h1
      rw [text_inj h1, ih h2]
theorem keyV_lst {α : Type} {H : Hp} {a : Addr} {l : List α} {f : α → V} {g : α → NK} (h : H a = some (.tup (l.map f))) (hp : ∀ x ∈ l, KeyV H (f x) (g x)) : KeyV H (.ref a) (.tup (l.map g)) := by
  refine .tup h (by rw [List.length_map, List.length_map]) fun i x k hx hk => ?_
  rw [List.getElem?_map] at hx hk
  cases e : l[i]? with
  | none => rw [e] at hx; cases hx
  | some y =>
    rw [e] at hx hk
    rw [← Option.some.inj hx, ← Option.some.inj hk]
    exact hp y (List.mem_of_getElem? e)
theorem LinesAt.key {H : Hp} {t : Addr} {qs : List (Addr × List Str)} (h : LinesAt H t qs) : KeyV H (.ref t) (wayK (qs.map Prod.snd)) := by
  unfold wayK
  rw [List.map_map]
  exact keyV_lst h.1 fun q hq => keyV_lst (h.2 q hq) fun z _ => .str z
theorem depth_all {ks : List NK} {n : Nat} (h : ∀ k ∈ ks, k.depth ≤ n) : PySem.NestedKey.depthAll ks ≤ n := by
  induction ks with
  | nil => exact Nat.zero_le _
  | cons k ks ih =>
    rw [PySem.NestedKey.depthAll]
    exact Nat.max_le.mpr ⟨h k List.mem_cons_self, ih fun j hj => h j (List.mem_cons_of_mem _ hj)⟩
theorem depth_tup {ks : List NK} {n : Nat} (h : ∀ k ∈ ks, k.depth ≤ n) : (PySem.NestedKey.tup ks).depth ≤ n + 1 := by
  rw [PySem.NestedKey.depth]
  exact Nat.succ_le_succ (depth_all h)
theorem depth_map {α : Type} {l : List α} {g : α → NK} {n : Nat} (h : ∀ x, (g x).depth ≤ n) : (PySem.NestedKey.tup (l.map g)).depth ≤ n + 1 := depth_tup fun k hk => by
  obtain ⟨x, _, rfl⟩ := List.mem_map.mp hk
  exact h x
theorem LinesAt.nest {H : Hp} {t : Addr} {qs : List (Addr × List Str)} (h : LinesAt H t qs) : NestH H t (wayK (qs.map Prod.snd)) := by
  refine ⟨h.key, ?_⟩
  have d0 : ∀ z : Str, (PySem.NestedKey.text z).depth ≤ 1 := fun z => by rw [PySem.NestedKey.depth] <;> exact Nat.zero_le _
  have : (wayK (qs.map Prod.snd)).depth ≤ 3 := depth_map fun ws => depth_map d0
  omega
/-- a dict of ways -/
def ent (es : List (List (List Str))) : List (NK × V) := es.map fun w => (wayK w, V.bl true)
def addW (es : List (List (List Str))) (w : List (List Str)) : List (List (List Str)) := if w ∈ es then es else es ++ [w]
theorem val_ent {es : List (List (List Str))} {w : List (List Str)} : (valV (ent es) (wayK w)).isSome = decide (w ∈ es) := by
  rw [← valV_any]
  induction es with
  | nil => rfl
  | cons a es ih =>
    unfold ent at ih ⊢
    rw [List.map_cons, List.any_cons, ih]
    by_cases e : a = w
    · subst e
      simp
    · have e2 : ¬ wayK a = wayK w := fun q => e (wayK_inj q)
      simp [e2, Ne.symm e]
theorem put_ent {es : List (List (List Str))} {w : List (List Str)} : putK (ent es) (wayK w) (.bl true) = ent (addW es w) := by
  unfold putK addW
  rw [valV_any, val_ent]
  by_cases e : w ∈ es
  · rw [if_pos (decide_eq_true e), if_pos e]
    unfold ent
    rw [List.map_map]
    refine List.map_congr_left fun x _ => ?_
    show (if wayK x = wayK w then (wayK x, V.bl true) else (wayK x, V.bl true)) = _
    split <;> rfl
  · rw [if_neg (by simp [e]), if_neg e]
    unfold ent
    rw [List.map_append]
    rfl
theorem mem_addW {es : List (List (List Str))} {w x : List (List Str)} : x ∈ addW es w ↔ x ∈ es ∨ x = w := by
  unfold addW
  split
  · rename_i h
    exact ⟨.inl, fun q => q.elim id fun e => e ▸ h⟩
  · rw [List.mem_append, List.mem_singleton]
theorem nd_addW {es : List (List (List Str))} {w : List (List Str)} (h : es.Nodup) : (addW es w).Nodup := by
  unfold addW
  split
  · exact h
  · rename_i q
    rw [List.nodup_append]
    exact ⟨h, by simp, fun a ha b hb e => q (by rw [← List.mem_singleton.mp hb, ← e]; exact ha)⟩
theorem addW_len {es : List (List (List Str))} {w : List (List Str)} : (addW es w).length ≤ es.length + 1 := by
  unfold addW
  split
  · omega
  · rw [List.length_append]
    exact Nat.le_refl _
theorem ND.off {P : Program} {w : World} {H : Hp} {a b : Addr} {u : HO} {kvs : List (NK × V)} (d : ND P w H a kvs) (hab : b ≠ a) (hb : ∀ ys, H b ≠ some (.tup ys)) : ND P w (upd H b u) a kvs := by
  obtain ⟨h1, h2, xs, h3, h4⟩ := d
  exact ⟨h1, h2, xs, by rw [upd_ne (Ne.symm hab)]; exact h3, h4.keeps fun c ys e => by rw [upd_ne (fun z : c = b => hb ys (by rw [← z]; exact e))]; exact e⟩
/-- only D changed, and D is a dict of ways -/
theorem LayAt.nd {P : Program} {w : World} {C D : Addr} {H H' : Hp} {p sd nd : Addr} {cs : List (Str × Nat)} {r : Nat} {ls : List (List Str)} {kvs : List (NK × V)} (h : LayAt C H p sd nd cs r ls) (hD : ND P w H D kvs) (b : But D H H') : LayAt C H' p sd nd cs r ls := by
  obtain ⟨_, _, xs, hD, _⟩ := hD
  obtain ⟨dx, t, qs, h1, h2, h3, h4, h5⟩ := h
  have go : ∀ {a : Addr} {o : HO}, H a = some o → o ≠ NDo P w D xs → H' a = some o := fun e n => b _ _ (ne_of e hD n) e
  exact ⟨dx, t, qs, go h1 (by intro z; cases z), go h2 (by intro z; cases z), go h3 (by intro z; cases z), ⟨go h4.1 (by intro z; cases z), fun q hq => go (h4.2 q hq) (by intro z; cases z)⟩, h5⟩
theorem MovesAt.nd {P : Program} {w : World} {C D : Addr} {H H' : Hp} {l : Addr} {cs : List (Str × Nat)} {r : Nat} {bs : List (Addr × Str × Addr × List (List Str))} {kvs : List (NK × V)} (h : MovesAt C H l cs r bs) (hD : ND P w H D kvs) (b : But D H H') : MovesAt C H' l cs r bs := by
  have h2 := hD
  obtain ⟨_, _, xs, hD, _⟩ := hD
  have go : ∀ {a : Addr} {o : HO}, H a = some o → o ≠ NDo P w D xs → H' a = some o := fun e n => b _ _ (ne_of e hD n) e
  exact ⟨go h.at_ (by intro z; cases z), fun q hq => let ⟨a, sd, nd, lay⟩ := h.each q hq; ⟨go a (by intro z; cases z), sd, nd, lay.nd h2 b⟩⟩
/-- the dict of dicts of ways -/
structure LinksAt (P : Program) (w : World) (H : Hp) (l : Addr) (ts : List (List (List Str) × Addr × List (List (List Str)))) : Prop where
  nd : ND P w H l (ts.map fun t => (wayK t.1, V.ref t.2.1))
  each : ∀ t ∈ ts, t.2.1 ≠ l ∧ ND P w H t.2.1 (ent t.2.2)
theorem LinksAt.same {P : Program} {w : World} {H H' : Hp} {l : Addr} {ts : List (List (List Str) × Addr × List (List (List Str)))} (h : LinksAt P w H l ts) (s : Same H H') : LinksAt P w H' l ts :=
  ⟨h.nd.same s, fun t ht => ⟨(h.each t ht).1, (h.each t ht).2.same s⟩⟩
theorem val_links {ts : List (List (List Str) × Addr × List (List (List Str)))} {t : List (List Str) × Addr × List (List (List Str))} (h : t ∈ ts) (nd : (ts.map Prod.fst).Nodup) : valV (ts.map fun t => (wayK t.1, V.ref t.2.1)) (wayK t.1) = some (.ref t.2.1) := by
  unfold valV
  induction ts with
  | nil => cases h
  | cons a ts ih =>
    rw [List.map_cons] at nd
    obtain ⟨n1, n2⟩ := List.nodup_cons.mp nd
    rw [List.map_cons, List.find?_cons]
    rcases List.mem_cons.mp h with rfl | h
    · simp
    · have : ¬ wayK a.1 = wayK t.1 := fun e => n1 (by rw [wayK_inj e]; exact List.mem_map_of_mem h)
      rw [show decide (wayK a.1 = wayK t.1) = false from decide_eq_false this]
      exact ih h n2
theorem put_links {ts : List (List (List Str) × Addr × List (List (List Str)))} {x : List (List Str)} {a : Addr} (h : x ∉ ts.map Prod.fst) : putK (ts.map fun t => (wayK t.1, V.ref t.2.1)) (wayK x) (.ref a) = (ts.map fun t => (wayK t.1, V.ref t.2.1)) ++ [(wayK x, .ref a)] := by
  unfold putK
  rw [if_neg ?_]
  rw [List.any_eq_true]
  rintro ⟨kv, hk, e⟩
  obtain ⟨t, ht, rfl⟩ := List.mem_map.mp hk
  exact h (List.mem_map.mpr ⟨t, ht, wayK_inj (of_decide_eq_true e)⟩)
theorem keyV_text {H : Hp} {x : V} {z : Str} (h : KeyV H x (.text z)) : x = .str z := by
  cases h
  rfl
theorem keyV_tup {H : Hp} {x : V} {ks : List NK} (h : KeyV H x (.tup ks)) : ∃ a xs, x = .ref a ∧ H a = some (.tup xs) ∧ xs.length = ks.length ∧ ∀ (i : Nat) (y : V) (k : NK), xs[i]? = some y → ks[i]? = some k → KeyV H y k := by
  cases h with
  | tup e l f => exact ⟨_, _, rfl, e, l, f⟩
theorem keyV_line {H : Hp} {x : V} {ws : List Str} (h : KeyV H x (lineK ws)) : ∃ a, x = .ref a ∧ H a = some (.tup (ws.map V.str)) := by
  obtain ⟨a, xs, rfl, e, l, f⟩ := keyV_tup h
  have : xs = ws.map V.str := by
    refine List.ext_getElem? fun i => ?_
    rw [List.length_map] at l
    rw [List.getElem?_map]
    cases hz : ws[i]? with
    | none =>
      rw [List.getElem?_eq_none (by have := List.getElem?_eq_none_iff.mp hz; omega)]
      rfl
    | some z =>
      have hi : i < xs.length := by have := (List.getElem?_eq_some_iff.mp hz).1; omega
      rw [List.getElem?_eq_getElem hi]
      exact congrArg some (keyV_text (f i _ (.text z) (List.getElem?_eq_getElem hi) (by rw [List.getElem?_map, hz]; rfl)))
  rw [this] at e
  exact ⟨a, rfl, e⟩
theorem keyV_lines {H : Hp} : ∀ {ls : List (List Str)} {xs : List V}, xs.length = ls.length → (∀ (i : Nat) (y : V) (k : NK), xs[i]? = some y → (ls.map lineK)[i]? = some k → KeyV H y k) → ∃ qs : List (Addr × List Str), xs = qs.map (fun q => V.ref q.1) ∧ qs.map Prod.snd = ls ∧ ∀ q ∈ qs, H q.1 = some (.tup (q.2.map V.str))
  | [], [], _, _ => ⟨[], rfl, rfl, fun _ h => nomatch h⟩
  | [], _ :: _, h, _ => by simp at h
  | _ :: _, [], h, _ => by simp at h
  | l :: ls, x :: xs, h, f => by
    obtain ⟨a, rfl, e⟩ := keyV_line (f 0 x (lineK l) rfl rfl)
    obtain ⟨qs, e1, e2, e3⟩ := keyV_lines (by simpa using h) fun i y k h1 h2 => f (i + 1) y k (by simpa using h1) (by simpa using h2)
    refine ⟨(a, l) :: qs, by rw [e1]; rfl, by rw [List.map_cons, e2], fun q hq => ?_⟩
    rcases List.mem_cons.mp hq with rfl | hq
    · exact e
    · exact e3 q hq
theorem nest_lines {H : Hp} {a : Addr} {ls : List (List Str)} (h : NestH H a (wayK ls)) : ∃ qs, LinesAt H a qs ∧ qs.map Prod.snd = ls := by
  obtain ⟨b, xs, e0, e, l, f⟩ := keyV_tup h.key
  obtain rfl : a = b := V.ref.inj e0
  obtain ⟨qs, rfl, e2, e3⟩ := keyV_lines (by rw [l, List.length_map]) f
  exact ⟨qs, ⟨e, e3⟩, e2⟩
end Vf

set_option maxRecDepth 100000
set_option maxHeartbeats 4000000
namespace Vf
open PySem PySem.Spec PyProof.Rows L2
section
variable {P : Program} {w : World} {K : PySem.W.Frag} {mg mb : Str → Option Value} {a c T : Addr} {s₁ : Shared} {vs : List Value} {H : Hp}
/-- what H tracks ahead of the statement: the table, and the script unless the top has it -/
structure Ahead (K : PySem.W.Frag) (h : Heap) (a T : Addr) (vs : List Value) (H : Hp) : Prop where
  tab : H T = some (.tbl #[])
  atT : h.get? T = some { cls := .none, data := .fields #[] }
  only : ∀ b u, H b = some u → b = T ∨ (b = a ∧ K.lookup a = none ∧ ∃ xs, u = .frz { cls := .type "list", data := .seq vs.toArray } (.lst xs))
  noT : K.lookup T = none
variable (W : Ahead K s₁.heap a T vs H) (at_a : s₁.heap.get? a = some { cls := .type "list", data := .seq vs.toArray })
include W at_a
theorem Ahead.free {b : Addr} {o : Obj} (e : s₁.heap.get? b = some o) (h1 : ∀ xs n, o.data ≠ .seq xs n) (h2 : o.data ≠ .fields #[]) : H b = none := by
  match tr : H b with
  | none => rfl
  | some u =>
    rcases W.only b u tr with z | ⟨z, _, _⟩
    · rw [z, W.atT] at e
      cases e
      exact (h2 rfl).elim
    · rw [z, at_a] at e
      cases e
      exact (h1 _ _ rfl).elim
theorem Ahead.sees {b : Addr} {m : Str → Option Value} (n : s₁.heap.Ns b m) : (hidT s₁.heap H).Ns b m := by
  obtain ⟨o, es, ep, e, d, r⟩ := n
  exact ⟨o, es, ep, hidT_get e (W.free at_a e (fun _ _ z => by rw [d] at z; cases z) fun z => by rw [d] at z; cases z), d, r⟩
theorem Ahead.kin (inK : K.In s₁.heap) : K.In (hidT s₁.heap H) := by
  intro b o look
  refine hidT_get (inK b o look) ?_
  match tr : H b with
  | none => rfl
  | some u =>
    rcases W.only b u tr with z | ⟨z, none, _⟩
    · rw [z, W.noT] at look
      cases look
    · rw [z, none] at look
      cases look
theorem Ahead.env (inK : K.In s₁.heap) (nm : s₁.heap.Ns mainGlobals mg) (nb : s₁.heap.Ns builtinsNs mb) (bb : ∀ x : Str, x ≠ "__name__" → mb x = bootBuiltins x) (lim : s₁.heap.NoLimit) (gens : s₁.gens = #[]) (ok : HOk P w H s₁.heap) :
    Env0 P w K mg (hidT s₁.heap H) callerA [] s₁ H := by
  obtain ⟨mc, l1, l2⟩ := lim
  exact ⟨rfl, ⟨W.kin at_a inK, W.sees at_a nm, ⟨mb, W.sees at_a nb, bb⟩, ⟨mc, W.sees at_a l1, l2⟩⟩, fun _ _ at_b => of_hidT at_b, Nat.le_of_eq (hidT_size _ _), trivial, (fun b no => absurd (show b ∈ ([] : List Addr) from no) (by simp)), ok, AllBare.of_eq gens⟩
theorem Ahead.maker (C : PySem.W.CodeHd s₁.heap c T) (nm : s₁.heap.Ns mainGlobals mg) (bm : ∃ (bm : Addr) (ob : Obj), mg "__builtins__" = some (.ref bm) ∧ bm ≠ builtinsNs ∧ s₁.heap.get? bm = some ob ∧ ob.cls = .type "module" ∧ ob.dict = some builtinsNs ∧ ob.data = .plain) :
    LamX.TabB (hidT s₁.heap H) mg c T := by
  obtain ⟨og, es, ep, eg, dg, _⟩ := nm
  refine ⟨?_, ?_, fun z => ?_⟩
  · obtain ⟨o, us, file, tf, flags, tg, inF, text, tt, e, r1, r2, r3, rest⟩ := C
    refine ⟨o, us, file, tf, flags, tg, inF, text, tt, hidT_get e (W.free at_a e (fun _ _ z => by rw [r2] at z; cases z) fun z => ?_), r1, r2, r3, rest⟩
    rw [r2] at z
    cases z
    simp at r3
  · obtain ⟨b, ob, b1, b2, b3, b4, b5, b6⟩ := bm
    refine ⟨b, ob, b1, b2, fun z => ?_, fun z => ?_, hidT_get b3 (W.free at_a b3 (fun _ _ z => by rw [b6] at z; cases z) fun z => by rw [b6] at z; cases z), b4, b5, b6⟩
    · rw [z, eg] at b3
      cases b3
      rw [dg] at b6
      cases b6
    · rw [z, W.atT] at b3
      cases b3
      cases b6
  · rw [z, W.atT] at eg
    cases eg
    cases dg
/-- a call by the caller that tells True -/
theorem Ahead.run {CX : CXT} {k : Nat} {fa : Addr} {fd : FuncData} {x : Str} {sp : Sp} (F : FnG P w K mg (hidT s₁.heap H) CX k fa fd [x] sp) (room : Room k callerA) (bind : ∀ (s : Shared) (u : Value), BindsTo s fd ⟨[u], []⟩ [(x, u)])
    (C : PySem.W.CodeHd s₁.heap c T) (env : Env0 P w K mg (hidT s₁.heap H) callerA [] s₁ H) (q : sp [.ref a] H (fun v _ => v = .bl true) fun _ _ _ => False) (noX : ∀ e s', CX [] H s₁ (fun _ _ _ => False) e s' → False) :
    codeAny (model P w) callerA (.call (.ref fa) ⟨[.ref a], []⟩) (fun r s' => r = .ok (.ret (.bool true)) ∧ OldK s₁.heap s'.heap ∧ s'.os = s₁.os ∧ AllBare s'.gens) s₁ := by
  have one : Vals [V.ref a] [Value.ref a] := .cons rfl .nil
  refine codeAny_mono (F.run callerA [] s₁ H ⟨[.ref a], []⟩ [.ref a] [.ref a] _ _ rfl room env (bind s₁ (.ref a)) one q) fun out s' told => ?_
  match out, told with
  | .error e, told => exact (noX e s' told).elim
  | .ok .next, told => exact (told : False).elim
  | .ok .brk, told => exact (told : False).elim
  | .ok .cont, told => exact (told : False).elim
  | .ok (.ret u), told =>
    obtain ⟨v, H', eos, bare, un, ok', rel, ev⟩ := told
    obtain rfl : v = .bl true := ev
    obtain rfl : u = Value.bool true := rel
    obtain ⟨more, grown⟩ := un.tbls T #[] W.tab
    have atT' : s'.heap.get? T = some { cls := .none, data := .fields (#[] ++ more) } := ok' T _ grown
    have stay : ∀ b o, b ≠ T → s₁.heap.get? b = some o → s'.heap.get? b = some o := by
      intro b o nT at_b
      match tr : H b with
      | none => exact un.keep b o at_b tr (fun z => nomatch z) (by simp)
      | some u =>
        rcases W.only b u tr with z | ⟨_, _, xs, z⟩
        · exact absurd z nT
        · rw [z] at tr
          obtain ⟨before, _⟩ := env.hok b _ tr
          obtain ⟨behind, _⟩ := ok' b _ (un.frzs b _ _ tr)
          rw [before] at at_b
          cases at_b
          exact behind
    refine ⟨rfl, ⟨fun b o e => ?_, fun b o e => ?_⟩, eos, bare⟩
    · by_cases hb : b = T
      · subst hb
        have e' := e
        rw [W.atT] at e'
        cases e'
        exact .inr (.inl ⟨(C.tab W.atT).isCodeTable, rfl, #[], more, rfl, atT'⟩)
      · exact .inl (stay b o hb e)
    · by_cases hb : b = T
      · exact ⟨_, hb ▸ atT'⟩
      · exact ⟨o, stay b o hb e⟩
omit W at_a
theorem head_tab {CX : CXT} {k : Nat} {fa : Addr} {fd : FuncData} {x : Str} {sp : Sp} {ns : List Int} (inK : K.In s₁.heap) (nm : s₁.heap.Ns mainGlobals mg) (nb : s₁.heap.Ns builtinsNs mb) (bb : ∀ x : Str, x ≠ "__name__" → mb x = bootBuiltins x) (lim : s₁.heap.NoLimit)
    (gens : s₁.gens = #[]) (at_a : s₁.heap.get? a = some { cls := .type "list", data := .seq vs.toArray }) (isI : IntsAre vs ns) (hl : ns.length ≤ sizeLine) (room : Room k callerA)
    (atT : s₁.heap.get? T = some { cls := .none, data := .fields #[] }) (noT : K.lookup T = none) (C : PySem.W.CodeHd s₁.heap c T)
    (bm : ∃ (bm : Addr) (ob : Obj), mg "__builtins__" = some (.ref bm) ∧ bm ≠ builtinsNs ∧ s₁.heap.get? bm = some ob ∧ ob.cls = .type "module" ∧ ob.dict = some builtinsNs ∧ ob.data = .plain)
    (F : ∀ base : Heap, K.In base → base.Ns mainGlobals mg → LamX.TabB base mg c T → FnG P w K mg base CX k fa fd [x] sp) (bind : ∀ (s : Shared) (u : Value), BindsTo s fd ⟨[u], []⟩ [(x, u)])
    (hsp : ∀ H : Hp, H T = some (.tbl #[]) → SqL K H a (ns.map V.int) → sp [.ref a] H (fun v _ => v = .bl true) fun _ _ _ => False) (noX : ∀ H e s', CX [] H s₁ (fun _ _ _ => False) e s' → False) :
    codeAny (model P w) callerA (.call (.ref fa) ⟨[.ref a], []⟩) (fun r s' => r = .ok (.ret (.bool true)) ∧ OldK s₁.heap s'.heap ∧ s'.os = s₁.os ∧ AllBare s'.gens) s₁ := by
  have rel := vals_ints isI
  have short : (ns.map V.int).length ≤ sizeLine := by rwa [List.length_map]
  have aT : a ≠ T := fun z => by
    rw [z, atT] at at_a
    cases at_a
  have go : ∀ H : Hp, Ahead K s₁.heap a T vs H → HOk P w H s₁.heap → SqL K H a (ns.map V.int) → codeAny (model P w) callerA (.call (.ref fa) ⟨[.ref a], []⟩) (fun r s' => r = .ok (.ret (.bool true)) ∧ OldK s₁.heap s'.heap ∧ s'.os = s₁.os ∧ AllBare s'.gens) s₁ := by
    intro H W ok isL
    have env := W.env at_a inK nm nb bb lim gens ok (P := P) (w := w)
    exact W.run at_a (F _ env.mod.kin env.mod.glob (W.maker at_a C nm bm)) room bind C env (hsp H W.tab isL) (noX H)
  cases look : K.lookup a with
  | some o =>
    have z := inK a o look
    rw [at_a] at z
    cases z
    let H : Hp := fun b => if b = T then some (.tbl #[]) else none
    have hT : H T = some (.tbl #[]) := if_pos rfl
    refine go H ⟨hT, atT, fun b u e => ?_, noT⟩ (fun b u e => ?_) (.inr ⟨_, vs.toArray, _, look, rfl, rfl, rfl, ?_, by simpa using rel⟩)
    · by_cases hb : b = T
      · exact .inl hb
      · rw [show H b = none from if_neg hb] at e
        cases e
    · by_cases hb : b = T
      · subst hb
        rw [hT] at e
        cases e
        exact atT
      · rw [show H b = none from if_neg hb] at e
        cases e
    · rw [List.size_toArray, isI.length]
      exact hl
  | none =>
    let H : Hp := fun b => if b = T then some (.tbl #[]) else if b = a then some (.frz { cls := .type "list", data := .seq vs.toArray } (.lst (ns.map V.int))) else none
    have hT : H T = some (.tbl #[]) := if_pos rfl
    have hA : H a = some (.frz { cls := .type "list", data := .seq vs.toArray } (.lst (ns.map V.int))) := (if_neg aT).trans (if_pos rfl)
    have hN : ∀ b, b ≠ T → b ≠ a → H b = none := fun b h1 h2 => (if_neg h1).trans (if_neg h2)
    refine go H ⟨hT, atT, fun b u e => ?_, noT⟩ (fun b u e => ?_) (.inl (.inr ⟨_, hA⟩))
    · by_cases hb : b = T
      · exact .inl hb
      · by_cases hc : b = a
        · subst hc
          rw [hA] at e
          cases e
          exact .inr ⟨rfl, look, _, rfl⟩
        · rw [hN b hb hc] at e
          cases e
    · by_cases hb : b = T
      · subst hb
        rw [hT] at e
        cases e
        exact atT
      · by_cases hc : b = a
        · subst hc
          rw [hA] at e
          cases e
          exact ⟨at_a, short, vs, _, rel, at_a⟩
        · rw [hN b hb hc] at e
          cases e
end
theorem walk_tab {l : PySem.W.OpenLaw} {n k : Nat} {q : Program} {loose : List Str} {XP : (Str → Option Value) → Heap → Prop} {YP : World → Heap → Prop} {d : DefRec} {K : Params → PySem.W.Frag} {CX : World → CXT} {sp : World → Addr → Sp} {x : Str}
    (hn : l.most = some n) (fits : n ≤ sizeLine) (hdf : d.params.defaults = []) (room : Room k callerA) (inK : ∀ (w : World) (h : Heap), YP w h → (K w.params).In h)
    (F : ∀ (w : World) (mg : Str → Option Value) (fa : Addr) (h : Heap), YP w h → (K w.params).In h → h.Ns mainGlobals mg → mg d.name = some (.ref fa) →
      ∃ (fd : FuncData) (c T : Addr), (∀ (s : Shared) (u : Value), BindsTo s fd ⟨[u], []⟩ [(x, u)]) ∧ h.get? T = some { cls := .none, data := .fields #[] } ∧ (K w.params).lookup T = none ∧ PySem.W.CodeHd h c T ∧
        ∀ base : Heap, (K w.params).In base → base.Ns mainGlobals mg → LamX.TabB base mg c T → FnG l.prog w (K w.params) mg base (CX w) k fa fd [x] (sp w T))
    (hsp : ∀ (w : World) (T : Addr) (H : Hp) (a : Addr) (ns : List Int), ns.length ≤ n → H T = some (.tbl #[]) → SqL (K w.params) H a (ns.map V.int) → sp w T [.ref a] H (fun v _ => v = .bl true) fun _ _ _ => False)
    (noX : ∀ (w : World) (H : Hp) (s : Shared) (e : Value) (s' : Shared), CX w [] H s (fun _ _ _ => False) e s' → False) :
    PySem.W.WalkO q loose XP YP l.row.toRowW d [] (fun f vs => PySem.call f vs) := by
  refine Att.attach_call hn hdf fun w s₀ s₁ mg mb fa o pm cd doc a vs ns G Y _ _ _ hmg at_a isI few gens => ?_
  obtain ⟨fd, c, T, bind, atT, noT, C, hF⟩ := F w mg fa _ Y (inK w _ Y) G.T.g hmg
  exact head_tab (inK w _ Y) G.T.g G.T.b G.T.builtins G.T.nolimit gens at_a isI (Nat.le_trans few fits) room atT noT C G.T.bmain hF bind (fun H hT hS => hsp w T H a ns few hT hS) fun H e s' => noX w H s₁ e s'
end Vf

set_option maxRecDepth 100000
set_option maxHeartbeats 32000000
namespace Vf
open PySem PySem.Spec PyProof.Rows L2
theorem pe_fldK {X : Cx} (K : PySem.W.Frag) {e : Expr} {ta : TE} {f : Str} {pos : Pos} (hK : X.K = K) (he : PE X e ta) (hb : attributeBase e f X.env (eval e X.env) = eval e X.env) : PE X (.Attribute e f pos) (tFld K ta f) := by
  subst hK
  exact pe_fld he hb
theorem SqL.ext {K : PySem.W.Frag} {H H' : Hp} {a : Addr} {xs : List V} (h : SqL K H a xs) (s : LamX.ExtN H H') : SqL K H' a xs := by
  rcases h with (h | ⟨o, h⟩) | h
  · exact .inl (.inl (s _ _ h (by intro ps z; cases z)))
  · exact .inl (.inr ⟨o, s _ _ h (by intro ps z; cases z)⟩)
  · exact .inr h
theorem LinesAt.off {D : Addr} {H H' : Hp} {t : Addr} {qs : List (Addr × List Str)} {xs : List V} (h : LinesAt H t qs) (hD : H D = some (.lst xs)) (b : But D H H') : LinesAt H' t qs :=
  ⟨b _ _ (ne_of h.1 hD (by intro z; cases z)) h.1, fun q hq => b _ _ (ne_of (h.2 q hq) hD (by intro z; cases z)) (h.2 q hq)⟩
theorem wr_of {α : Type} {K : PySem.W.Frag} {l : Addr} (ps : List (Addr × α)) : Walk (Itl K l) ps.length (fun H => SqL K H l (ps.map fun p => V.ref p.1)) (YAt (ps.map fun p => V.ref p.1)) := (walk_list (K := K) (a := l) (xs := ps.map fun p => V.ref p.1) |> fun z => by rw [List.length_map] at z; exact z)
theorem at_ref {α : Type} {ps : List (Addr × α)} {j : Nat} {q : Addr × α} {x : V} (hj : ps[j]? = some q) (hx : (ps.map fun p => V.ref p.1)[j]? = some x) : x = V.ref q.1 := by
  rw [List.getElem?_map, hj] at hx
  exact (Option.some.inj hx).symm
/-- a list of ways, each a tuple of tuples -/
structure Tab (H : Hp) (l : Addr) (ps : List (Addr × List (List Str))) : Prop where
  at_ : H l = some (.lst (ps.map fun q => V.ref q.1))
  each : ∀ q ∈ ps, ∃ qs, LinesAt H q.1 qs ∧ qs.map Prod.snd = q.2
theorem Tab.same {H H' : Hp} {l : Addr} {ps : List (Addr × List (List Str))} (h : Tab H l ps) (s : Same H H') : Tab H' l ps :=
  ⟨s _ _ h.at_, fun q hq => let ⟨qs, a, b⟩ := h.each q hq; ⟨qs, ⟨s _ _ a.1, fun z hz => s _ _ (a.2 z hz)⟩, b⟩⟩
theorem Tab.nest {H : Hp} {l : Addr} {ps : List (Addr × List (List Str))} (h : Tab H l ps) {q : Addr × List (List Str)} (hq : q ∈ ps) : NestH H q.1 (wayK q.2) := by
  obtain ⟨qs, a, b⟩ := h.each q hq
  rw [← b]
  exact a.nest
theorem allW_few {cs : List (Str × Nat)} (g : GoodCs cs) (r : Nat) : (allW cs r).length ≤ 720 := by
  have h1 := (sortW_perm (waysF (fitB cs r) (srt (cs.map Prod.fst)))).length_eq
  have h2 := ways_len (fit_mono cs r) _ (srt (cs.map Prod.fst)) rfl (srt_asc g.nd)
  have h3 : (srt (cs.map Prod.fst)).length = cs.length := by rw [(srt_perm _).length_eq, List.length_map]
  have h4 := fac_le (n := (srt (cs.map Prod.fst)).length) (m := 6) (by have := g.few; omega)
  have h5 : fac 6 = 720 := by decide
  unfold allW
  omega
theorem kn_get {H : Hp} {kvs : List (NK × V)} {xs : List (NK × Addr × Value)} (r : KN H kvs xs) : ∀ {i : Nat} {k : NK} {q : Addr} {v : Value}, xs[i]? = some (k, q, v) → ∃ kv, kvs[i]? = some kv ∧ NestH H q kv.1 := by
  induction r with
  | nil => exact fun h => by simp at h
  | @cons p q ps qs h t ih =>
    intro i k a v e
    cases i with
    | zero =>
      obtain rfl : q = (k, a, v) := by simpa using e
      exact ⟨p, rfl, h.2.1⟩
    | succ i => exact ih (by simpa using e)
theorem kn_len {H : Hp} {kvs : List (NK × V)} {xs : List (NK × Addr × Value)} (r : KN H kvs xs) : xs.length = kvs.length := by
  induction r with
  | nil => rfl
  | cons _ _ ih => rw [List.length_cons, List.length_cons, ih]
theorem Tab.tups {H H' : Hp} {l l' : Addr} {ps ps' : List (Addr × List (List Str))} (h : Tab H l ps) (e : H' l' = some (.lst (ps'.map fun q => V.ref q.1))) (t : ∀ c ys, H c = some (.tup ys) → H' c = some (.tup ys)) (sub : ∀ q ∈ ps', q ∈ ps) : Tab H' l' ps' :=
  ⟨e, fun q hq => let ⟨qs, a, b⟩ := h.each q (sub q hq); ⟨qs, ⟨t _ _ a.1, fun z hz => t _ _ (a.2 z hz)⟩, b⟩⟩
theorem at_last {xs : List V} {x : V} : atI (xs ++ [x]) (-1) = some x := by
  unfold atI ixN
  simp
  rw [if_pos (by omega)]
  show (xs ++ [x])[(-1 + ((xs.length : Int) + 1)).toNat]? = some x
  rw [show (-1 + ((xs.length : Int) + 1)).toNat = xs.length by omega]
  simp
theorem plain_ways : ∀ {ws : List (List (List Str))}, (∀ w ∈ ws, ∀ l ∈ w, ∀ z ∈ l, PyData.strOk z = true) → plainAll (ws.map linesD) = true ∧ PyData.depthAll (ws.map linesD) ≤ 2
  | [], _ => ⟨by simp [plainAll], by simp [PyData.depthAll]⟩
  | w :: ws, h => by
    obtain ⟨a, b⟩ := plain_ways fun y hy => h y (List.mem_cons_of_mem _ hy)
    have d := depth_lines w
    refine ⟨?_, ?_⟩
    · simp only [List.map_cons, plainAll, linesD, plainD, plain_lines (h w List.mem_cons_self), Bool.true_and]
      exact a
    · simp only [List.map_cons, PyData.depthAll, linesD, PyData.depth] at b ⊢
      omega
theorem shaped_ways {ws : List (List (List Str))} (h : ∀ w ∈ ws, ∀ l ∈ w, ∀ z ∈ l, PyData.strOk z = true) : SeqAt.shaped (.list (ws.map linesD)) = true := by
  obtain ⟨a, b⟩ := plain_ways h
  exact shaped_of (by simp only [plainD, a]) (by simp only [PyData.depth]; omega)
theorem Tab.dp {K : PySem.W.Frag} {H : Hp} {l : Addr} {ps : List (Addr × List (List Str))} (h : Tab H l ps) : Dp K H (.ref l) (.list ((ps.map Prod.snd).map linesD)) := by
  refine .lst (SqL.of h.at_) ?_
  have := h.each
  clear h
  induction ps with
  | nil => exact .nil
  | cons q ps ih =>
    obtain ⟨qs, a, b⟩ := this q List.mem_cons_self
    refine .cons ?_ (ih fun y hy => this y (List.mem_cons_of_mem _ hy))
    rw [← b]
    exact a.dp
theorem allW_srt {cs : List (Str × Nat)} (g : GoodCs cs) (r : Nat) : allW (srtCs cs) r = allW cs r := by
  have e1 : fitB (srtCs cs) r = fitB cs r := by
    funext ws
    unfold fitB
    rw [total_srtCs g]
  unfold allW
  rw [e1, srt_same ((srtCs_perm g).map Prod.fst)]
theorem mem_movesOf {cs : List (Str × Nat)} {r : Nat} {ls : List (List Str)} {e : Str × List (List Str)} : e ∈ movesOf cs r ls ↔ e.1 ∈ cs.map Prod.fst ∧ ∃ i m, i ≤ ls.length ∧ moveL cs r ls e.1 i = some m ∧ e.2 = sortL (m.map srt) := by
  unfold movesOf movesZ
  rw [List.mem_flatMap]
  constructor
  · rintro ⟨z, hz, h⟩
    obtain ⟨i, hi, h⟩ := List.mem_filterMap.mp h
    obtain ⟨m, hm, rfl⟩ := Option.map_eq_some_iff.mp h
    exact ⟨(srt_perm _).mem_iff.mp hz, i, m, by have := List.mem_range.mp hi; omega, hm, rfl⟩
  · obtain ⟨z, x⟩ := e
    rintro ⟨hz, i, m, hi, hm, rfl⟩
    exact ⟨z, (srt_perm _).mem_iff.mpr hz, List.mem_filterMap.mpr ⟨i, List.mem_range.mpr (Nat.lt_succ_of_le hi), by rw [hm]; rfl⟩⟩
theorem edge_moves {cs : List (Str × Nat)} {r : Nat} {ls x : List (List Str)} : x ∈ (movesOf cs r ls).map Prod.snd ↔ Edge cs r ls x := by
  constructor
  · intro h
    obtain ⟨e, he, rfl⟩ := List.mem_map.mp h
    obtain ⟨hz, i, m, hi, hm, e2⟩ := mem_movesOf.mp he
    exact ⟨e.1, hz, i, hi, m, hm, e2.symm⟩
  · rintro ⟨z, hz, i, hi, m, hm, rfl⟩
    exact List.mem_map.mpr ⟨(z, sortL (m.map srt)), mem_movesOf.mpr ⟨hz, i, m, hi, hm, rfl⟩, rfl⟩
theorem moves_len {cs : List (Str × Nat)} {r : Nat} {ls : List (List Str)} (g : GoodCs cs) (o : LsOk cs r ls) : (movesOf cs r ls).length ≤ 42 := by
  have few := g.few
  have l6 : ls.length ≤ 6 := by
    have := flat_len2 o.ne
    rw [o.perm.length_eq, List.length_map] at this
    omega
  have h1 := len_bind (n := 7) (l := srt (cs.map Prod.fst)) (f := fun z => movesZ cs r ls z (ls.length + 1)) fun z _ => by
    unfold movesZ
    refine Nat.le_trans (List.length_filterMap_le _ _) ?_
    rw [List.length_range]
    omega
  have h2 := (srt_perm (cs.map Prod.fst)).length_eq
  rw [List.length_map] at h2
  unfold movesOf
  omega
theorem total_all {cs : List (Str × Nat)} (g : GoodCs cs) : total cs (cs.map Prod.fst) = (cs.map Prod.snd).sum := by
  unfold total
  rw [List.map_map]
  congr 1
  refine List.map_congr_left fun p hp => ?_
  show sizeOfD cs p.1 = p.2
  unfold sizeOfD
  rw [size_of_mem g.nd hp]
  rfl
theorem sum_ints : ∀ cs : List (Str × Nat), (cs.map fun p => ((p.2 : Nat) : Int)).sum = (((cs.map Prod.snd).sum : Nat) : Int)
  | [] => rfl
  | c :: cs => by
    rw [List.map_cons, List.sum_cons, List.map_cons, List.sum_cons, sum_ints cs]
    omega
theorem sum_le : ∀ {cs : List (Str × Nat)}, (∀ p ∈ cs, p.2 ≤ 8) → (cs.map Prod.snd).sum ≤ 8 * cs.length
  | [], _ => Nat.le_refl _
  | c :: cs, h => by
    have h1 := sum_le fun p hp => h p (List.mem_cons_of_mem _ hp)
    have h2 := h c List.mem_cons_self
    rw [List.map_cons, List.sum_cons, List.length_cons]
    omega
theorem mem_le_sum : ∀ {l : List Nat} {x : Nat}, x ∈ l → x ≤ l.sum
  | a :: l, x, h => by
    rw [List.sum_cons]
    rcases List.mem_cons.mp h with rfl | h
    · omega
    · have := mem_le_sum h
      omega
theorem max_le_sum (cs : List (Str × Nat)) : maxOf cs ≤ (cs.map Prod.snd).sum := by
  unfold maxOf
  rcases (le_fold (cs.map Prod.snd) 0).2.2 with h | h
  · omega
  · exact mem_le_sum h
section
variable {P : Program} {w : World} {K : PySem.W.Frag} {mg : Str → Option Value} {base : Heap}
def sp_law (K : PySem.W.Frag) (Tb : Addr) : Sp := fun vs H Q _ => ∃ (a : Addr) (ns : List Int), vs = [.ref a] ∧ SqL K H a (ns.map V.int) ∧ ns.length ≤ 63 ∧ LamX.Tabs (tabL Tb) H ∧ ∀ H', Q (.bl true) H'
theorem ok_law {f C Tb fE : Addr} {fd fdE : FuncData} (F : Fun K "law" "law" s_law f fd) (T : Txt0 K mg) (TM : TxtM mg) (TL : TxtL K mg C) (TE : TxtE K C)
    (GF : OkF P w K mg base CX0 "_law_feed" p_law_feed 1 (sp_law_feed K)) (GC : OkF P w K mg base CX0 "_law_cells" p_law_cells 4 sp_law_cells) (GT : OkF P w K mg base CX0 "_law_take" p_law_take 1 sp_law_take) (GP : OkF P w K mg base CX0 "_law_pick" p_law_pick 2 (sp_law_pick K))
    (GA : OkF P w K mg base CX0 "all_layouts" p_all_layouts 6 (sp_all_layouts C Tb)) (GO : OkF P w K mg base CX0 "own" p_own 6 (sp_own C)) (GM : OkF P w K mg base CX0 "_law_moves" p_law_moves 7 (sp_law_moves C)) (GB : OkF P w K mg base CX0 "_law_back" p_law_back 7 (sp_law_back C))
    (FE : FnOk P w K mg base CX0 1 fE fdE p_Layout_eq (sp_Layout_eqG K C)) (OE : OwnC K C fE fdE p_Layout_eq) :
    FnG P w K mg base CX0 8 f fd p_law (sp_law K Tb) := by
  refine Vf.Fun.okG F sc_law (fun vs H Q E h => ?_) (fun cdv A outer s H vs Q E hcm hr h => ?_)
  · obtain ⟨a, ns, rfl, _⟩ := h
    rfl
  · obtain ⟨a, ns, rfl, hS, hn63, tb, k⟩ := h
    have hr6 : Room 6 _ := hr.mono (by decide)
    have hr4 : Room 4 _ := hr.mono (by decide)
    have hr2 : Room 2 _ := hr.mono (by decide)
    have hr1 : Room 1 _ := hr.mono (by decide)
    have hk := hu_of hr
    have hu : ∀ {X : Cx}, X.A = (cxOf CX0 P w K mg base n_law "law" (defScope s_law) f cdv A outer s H E).A → X.A.units + 16 < cLine := fun e => by
      rw [e]
      exact Nat.lt_of_le_of_lt (Nat.add_le_add_left (by decide : 16 ≤ 64) _) hr.units
    have hw : ∀ {X : Cx}, X.A = (cxOf CX0 P w K mg base n_law "law" (defScope s_law) f cdv A outer s H E).A → X.A.units + 65 < cLine := fun e => by
      rw [e]
      exact Nat.lt_of_le_of_lt (Nat.le_trans (Nat.add_le_add_left (by decide : 65 ≤ 16 * 7 + 200) _) (Nat.le_of_eq (Nat.add_assoc _ _ _).symm)) hr.un
    refine ⟨_, pss_cons (ps_for PassesOwn.never rfl (pi_range1 (by rfl) TM.range (pa_cons (pe_callB (call_max2 rfl) (by rfl) T.max (by decide +kernel) (pa_cons pe_int (pa_cons (pe_callB (call_min2 rfl) (by rfl) TM.min (by decide +kernel) (pa_cons pe_int (pa_cons (pe_callB call_len_seq (by rfl) T.len PySem.boot_len (pa_cons (pv 0) pa_nil)) pa_nil))) pa_nil))) pa_nil)) (pg_name (i := 1) sc_law.nd rfl (Or.inl rfl))
        (pss_cons (ps_set (i := 2) sc_law.nd rfl (Or.inl rfl) (pe_fn GF hr1 rfl pass0 (pa_cons (pv 0) (pa_cons (pv 1) pa_nil))))
        (pss_cons (ps_set (i := 3) sc_law.nd rfl (Or.inr rfl) (pe_fn GC hr4 rfl pass0 (pa_cons (pv 2) (pa_cons pe_int pa_nil))))
        (pss_cons (ps_lock (ps_setLc (i := 4) (own := [("name", 19)]) (g := gName 19) (tt := tYes) rfl sc_law.nd rfl rfl (sw_true rfl rfl rfl (by decide +kernel)) (pi_keys (pv 3)) (blkOk_by (N := n_law) (sc := defScope s_law) (by decide +kernel))
          (fun _ _ _ _ _ => pg_name (i := 19) sc_law.nd rfl (Or.inl rfl)) (fun _ _ _ _ _ => pts_nil) (fun _ _ _ _ _ => pe_dget hk (pv 3) (pv 19) (fun _ _ => rfl))))
        (pss_cons (ps_par (i := 5) (j := 6) rfl sc_law.nd rfl rfl (by decide) rfl rfl (pa_cons (pe_callB (cr_sum rfl) (by rfl) T.sum (by decide +kernel) (pa_cons (pv 4) pa_nil)) (pa_cons (pe_callB (cr_max rfl) (by rfl) T.max (by decide +kernel) (pa_cons (pv 4) pa_nil)) pa_nil)) (by rfl))
        (pss_cons (ps_set (i := 7) sc_law.nd rfl (Or.inl rfl) (pe_fn GP hr2 rfl pass0 (pa_cons (pv 2) (pa_cons (pe_lst (pa_cons (pv 6) (pa_cons (pv 5) (pa_cons
            (pe_callB (call_min2 rfl) (by rfl) TM.min (by decide +kernel) (pa_cons pe_int (pa_cons (pe_op op_add (pv 6) (pe_fn GT hr1 rfl pass0 (pa_cons (pv 2) (pa_cons pe_int pa_nil)))) pa_nil))) pa_nil)))) pa_nil))))
        (pss_cons (ps_set (i := 8) sc_law.nd rfl (Or.inl rfl) (pe_fn GA hr6 rfl pass0 (pa_cons (pv 3) (pa_cons (pv 7) pa_nil))))
        (pss_cons (ps_setLc (i := 9) (own := [("one", 17)]) (g := gName 17) (tt := tYes) rfl sc_law.nd rfl rfl (sw_true rfl rfl rfl (by decide +kernel)) (pi_list (pv 8)) (blkOk_by (N := n_law) (sc := defScope s_law) (by decide +kernel))
          (fun _ _ _ _ _ => pg_name (i := 17) sc_law.nd rfl (Or.inl rfl)) (fun _ _ _ _ _ => pts_nil) (fun _ _ _ _ _ => pe_fldK K rfl (pv 17) rfl))
        (pss_cons (ps_set (i := 10) sc_law.nd rfl (Or.inl rfl) pe_dnewN)
        (pss_cons (ps_for PassesOwn.never rfl (pi_list (pv 8)) (pg_name (i := 11) sc_law.nd rfl (Or.inl rfl))
          (pss_cons (ps_set (i := 12) sc_law.nd rfl (Or.inl rfl) pe_dnewN)
          (pss_cons (ps_for PassesOwn.never rfl (pi_list (pe_fn GM hr rfl pass0 (pa_cons (pv 11) pa_nil))) (pg_tup (by rfl) (pgs_cons (pg_name (i := 13) sc_law.nd rfl (Or.inl rfl)) (pgs_cons (pg_name (i := 14) sc_law.nd rfl (Or.inl rfl)) pgs_nil)))
            (pss_cons (ps_if (PW.pt (pw_or (pt_cmpR (op_notInD (hw rfl)) (pe_fld (pv 14) rfl) (pv 9) (by rfl)) (pw_or1 (pt_cmpR op_ne (pe_fld (pv 14) rfl) (pv 7) (nomark _))))) (pss_one (ps_ret pe_bl)) pss_nil)
            (pss_cons (ps_if (pt_cmpR (op_ownNe (E := E0) FE OE hr2 pass0) (pe_fn GB hr rfl pass0 (pa_cons (pv 11) (pa_cons (pv 13) (pa_cons (pv 14) pa_nil)))) (pv 11) (nomark _)) (pss_one (ps_ret pe_bl)) pss_nil)
            (pss_one (ps_asg pe_bl (pg_sub (pv 12) (pe_fld (pv 14) rfl) (set_nest (hu rfl))))))))
          (pss_one (ps_asg (pv 12) (pg_sub (pv 10) (pe_fld (pv 11) rfl) (set_nest (hu rfl))))))))
        (pss_cons (ps_par (i := 15) (j := 16) rfl sc_law.nd rfl rfl (by decide) rfl rfl (pa_cons (pe_disp1N (hu rfl) (pe_ix ix_list (pv 9) pe_int (fun _ _ => rfl)) pe_bl) (pa_cons (pe_lst (pa_cons (pe_ix ix_list (pv 9) pe_int (fun _ _ => rfl)) pa_nil)) pa_nil)) (by rfl))
        (pss_cons (ps_while PassesOwn.never (pt_cmpR (op_neD hr.units) (pv 16) (pe_lst pa_nil) (nomark _))
          (pss_one (ps_lock (ps_for PassesOwn.never rfl (pi_keysN (pe_dgetN (hu rfl) (pv 10) (pe_bm0 PySem.F.plainAttrs_list PySem.F.slot_list_pop PySem.F.type_list_pop mt_pop (pv 16)) (fun _ _ => rfl))) (pg_name (i := 17) sc_law.nd rfl (Or.inl rfl))
            (pss_one (ps_if (pt_cmpR (op_notInN (hu rfl)) (pv 17) (pv 15) (by rfl))
              (pss_cons (ps_asg pe_bl (pg_sub (pv 15) (pv 17) (set_nest (hu rfl))))
              (pss_one (ps_expr (pe_bm PySem.F.plainAttrs_list PySem.F.slot_list_append PySem.F.type_list_append mt_append (pv 16) (pa_cons (pv 17) pa_nil))))) pss_nil))))))
        (C8.pss_cut (ps_if (PW.pt (pw_or (pt_cmpR op_ne (pe_callB cr_lenN (by rfl) T.len PySem.boot_len (pa_cons (pv 15) pa_nil)) (pe_callB call_len_seq (by rfl) T.len PySem.boot_len (pa_cons (pv 9) pa_nil)) (nomark _))
            (pw_or1 (PW.pt (pw_and (pt_cmpR op_ge (pv 7) (pv 5) (nomark _)) (pw_and1 (pt_cmpR op_ne (pe_callB (cr_len (K := K) rfl) (by rfl) T.len PySem.boot_len (pa_cons (pe_ix ix_list (pv 9) pe_int (fun _ _ => rfl)) pa_nil)) pe_int (nomark _)))))))) (pss_one (ps_ret pe_bl)) pss_nil)
        (pss_cons (ps_set (i := 18) sc_law.nd rfl (Or.inl rfl) (pe_ix ix_list (pe_fn GA hr6 rfl pass0 (pa_cons (pv 3) (pa_cons (pv 6) pa_nil))) (pe_un un_neg pe_int) (fun _ _ => rfl)))
        (pss_one (ps_if (PW.pt (pw_or (pt_cmpR (op_ownNe (E := E0) FE OE hr2 pass0) (pv 18) (pe_fn GO hr6 rfl pass0 (pa_cons (pv 3) pa_nil)) (nomark _))
            (pw_or1 (pt_cmpR op_ne (pe_callB (cr_len (K := K) rfl) (by rfl) T.len PySem.boot_len (pa_cons (pe_fld (pv 18) rfl) pa_nil)) (pe_callB call_lenD (by rfl) T.len PySem.boot_len (pa_cons (pv 3) pa_nil)) (nomark _))))) (pss_one (ps_ret pe_bl)) pss_nil))))))))))))))))
      (pss_one (ps_ret pe_bl)), ?_⟩
    refine ⟨_, rfl, a, _, rfl, .inl hS, _, _, rfl, _, _, rfl, ?_⟩
    rw [List.length_map]
    obtain ⟨Mx, hM, hM5⟩ : ∃ M : Nat, (if (if ((ns.length : Nat) : Int) < 2 then ((ns.length : Nat) : Int) else 2) > 1 then (if ((ns.length : Nat) : Int) < 2 then ((ns.length : Nat) : Int) else 2) else 1) = (M : Int) ∧ M ≤ 2 := by
      by_cases h1 : ((ns.length : Nat) : Int) < 2
      · rw [if_pos h1]
        by_cases h2 : ((ns.length : Nat) : Int) > 1
        · rw [if_pos h2]
          exact ⟨ns.length, rfl, by omega⟩
        · rw [if_neg h2]
          exact ⟨1, rfl, by decide⟩
      · rw [if_neg h1]
        exact ⟨2, rfl, by decide⟩
    rw [hM]
    refine ⟨_, rfl, by omega, by omega, ?_⟩
    rw [Int.toNat_natCast]
    refine for_it (walk_range (lo := 0) (n := Mx)) (fun i σ H' => ∃ (v1 v2 v3 v4 v5 v6 v7 v8 v9 v10 v11 v12 v13 v14 v15 v16 v17 v18 v19 : Option V), σ = [some (.ref a), v1, v2, v3, v4, v5, v6, v7, v8, v9, v10, v11, v12, v13, v14, v15, v16, v17, v18, v19] ∧ SqL K H' a (ns.map V.int) ∧ LamX.Tabs (tabL Tb) H')
      ⟨_, _, _, _, _, _, _, _, _, _, _, _, _, _, _, _, _, _, _, rfl, hS, tb⟩ (fun _ _ _ _ _ => trivial) ?_ ?_
    · rintro i x σ H1' H1 hi ⟨v1, v2, v3, v4, v5, v6, v7, v8, v9, v10, v11, v12, v13, v14, v15, v16, v17, v18, v19, rfl, hS1, tb1⟩ ⟨rfl, rfl⟩
      refine ⟨_, rfl, _, rfl, a, ns, i, (by show [V.ref a, V.int (0 + (i : Int))] = _; rw [Int.zero_add]), hS1, by omega, fun p Hf sf hp0 ff => ?_⟩
      refine ⟨_, rfl, p, 4, rfl, ff, by decide, by decide, fun d0 cs0 H2 b2 f2 hd0 hd2 g0 l4 => ?_⟩
      have few0 := g0.few
      have kl : (cellKv cs0).length = cs0.length := List.length_map ..
      have wk : ∀ {o : Obj}, Walk (Itk d0 o (cellKv cs0)) cs0.length (fun H => H d0 = some (.frz o (.dK (cellKv cs0)))) (fun i H x H' => H' = H ∧ ∃ k v, (cellKv cs0)[i]? = some (k, v) ∧ x = kV k) := fun {o} => (walk_keys (d := d0) (o := o) (kvs := cellKv cs0) |> fun z => by rw [kl] at z; exact z)
      refine ⟨d0, _, hd2, True.intro, fun o2 => ?_⟩
      have hz2 : (upd H2 d0 (.frz o2 (.dK (cellKv cs0)))) d0 = some (.frz o2 (.dK (cellKv cs0))) := upd_same
      refine ⟨_, rfl, d0, o2, rfl, .inl ⟨_, hz2, fun D2 hD2 => lc_mp cs0 wk hD2 (fun p => .int (p.2 : Int)) (by omega) (fun H5 s5 => s5 _ _ hz2) ?_ ?_⟩⟩
      · rintro j pp x H11 H12 hj s11 ⟨rfl, k', v', hkv, rfl⟩ R hR
        have e : (cellKv cs0)[j]? = some (Sum.inr pp.1, V.int (pp.2 : Int)) := by unfold cellKv; rw [List.getElem?_map, hj]; rfl
        rw [e] at hkv
        obtain rfl : Sum.inr pp.1 = k' := (Prod.mk.inj (Option.some.inj hkv)).1
        have gg : DGet H12 d0 (kV (Sum.inr pp.1)) (valV (cellKv cs0) (Sum.inr pp.1)) := .inl ⟨cellKv cs0, Sum.inr pp.1, .inr ⟨o2, s11 _ _ hz2⟩, rfl, rfl⟩
        rw [valV_cells, size_of_mem g0.nd (List.mem_of_getElem? hj)] at gg
        exact ⟨rfl, _, rfl, _, rfl, d0, _, rfl, gg, hR _ (Same.refl _)⟩
      intro H11 s11 hL2
      refine ⟨s11 _ _ hz2, ?_⟩
      have hD3 : (upd H11 d0 (.dK (cellKv cs0))) D2 = some (.lst ((cs0.map fun p => ((p.2 : Nat) : Int)).map V.int)) := by
        rw [upd_ne (ne_of_none hz2 hD2).symm, hL2, List.map_map]
        rfl
      have s12 : Same H2 (upd H11 d0 (.dK (cellKv cs0))) := unlock_same hd2 s11
      generalize (upd H11 d0 (.dK (cellKv cs0))) = H3 at s12 hD3 ⊢
      refine ⟨_, rfl, ⟨D2, cs0.map (fun p => ((p.2 : Nat) : Int)), rfl, SqL.of hD3, ?_⟩⟩
      refine ⟨_, rfl, D2, cs0.map (fun p => ((p.2 : Nat) : Int)), rfl, SqL.of hD3, by rw [List.length_map]; exact List.length_pos_iff.mpr g0.some, fun mm hm1 hm2 => ?_⟩
      obtain rfl := maxOf_of hm1 hm2
      rw [sum_ints, ← total_all g0]
      have w32 : total cs0 (cs0.map Prod.fst) ≤ 32 := by
        have := sum_le fun p hp => (g0.size p hp).2
        rw [total_all g0]
        omega
      have mw : maxOf cs0 ≤ total cs0 (cs0.map Prod.fst) := by rw [total_all g0]; exact max_le_sum cs0
      obtain ⟨wh, hwh⟩ : ∃ n, n = total cs0 (cs0.map Prod.fst) := ⟨_, rfl⟩
      rw [← hwh] at w32 mw ⊢
      have b3 := b2.then s12
      have f3 := f2.same s12
      have hd3 := s12 _ _ hd2
      obtain ⟨mx1, mx8⟩ := maxOf_good g0
      have dp : ∀ {H' : Hp} {d : Addr} {cs : List (Str × Nat)}, FeedAt H' p → H' d = some (.dK (cellKv cs)) → d ≠ p := fun f h => by
        obtain ⟨x, y, g1, _⟩ := f
        exact (ne_of g1 h (by intro z; cases z)).symm
      refine ⟨_, _, rfl, ?_⟩
      refine ⟨_, rfl, _, rfl, _, rfl, _, rfl, _, rfl, p, 5, rfl, f3, by decide, by decide, fun k0 H4 hk0 b4 f4 => ⟨_, _, rfl, rfl, _, _, rfl, (by show 3 ≤ sizeLine; decide), fun c hc => ⟨p, c, _, rfl, f4.put (f4.ne hc), f4.ne hc, SqL.of upd_same, (by show 1 ≤ 3; decide), (by show 3 ≤ 1000000; decide), fun r2 v H5 hv b5 f5 => ?_⟩⟩⟩
      obtain ⟨r0, rfl, r01, r032, rmx⟩ : ∃ r : Nat, v = .int (r : Int) ∧ 1 ≤ r ∧ r ≤ 32 ∧ maxOf cs0 ≤ r := by
        have hv' : ([V.int (maxOf cs0 : Int), .int (wh : Int), .int (if ((maxOf cs0 : Int) + (k0 : Int)) < 32 then ((maxOf cs0 : Int) + (k0 : Int)) else 32)] : List V)[r2]? = some v := hv
        match r2, hv' with
        | 0, e => exact ⟨maxOf cs0, (Option.some.inj e).symm, mx1, by omega, Nat.le_refl _⟩
        | 1, e => exact ⟨wh, (Option.some.inj e).symm, by omega, w32, mw⟩
        | 2, e =>
          refine ⟨min (maxOf cs0 + k0) 32, ?_, by omega, by omega, by omega⟩
          rw [← Option.some.inj e]
          congr 1
          split <;> omega
        | r + 3, e => exact absurd e (by simp)
      have b45 : But p H3 H5 := (b4.then (same_new hc)).trans b5
      have b05 := b3.trans b45
      have hd5 := b45 _ _ (dp f3 hd3) hd3
      have s15 : Same H1 H5 := b05.same sf hp0
      have hS5 : SqL K H5 a (ns.map V.int) := by
        rcases hS1 with (h | ⟨o, h⟩) | h
        · exact .inl (.inl (s15 _ _ h))
        · exact .inl (.inr ⟨o, s15 _ _ h⟩)
        · exact .inr h
      refine ⟨_, rfl, _, rfl, d0, cs0, r0, rfl, hd5, g0, r01, r032, tb1.ext s15, fun l8 bs8 H6 en tb6 ly6 eb => ?_⟩
      have hS6 := Vf.SqL.ext hS5 en
      have hd6 := en _ _ hd5 (by intro ps z; cases z)
      have lb8 : bs8.length ≤ 720 := by
        have := allW_few g0 r0
        rw [← eb, List.length_map] at this
        exact this
      refine ⟨_, rfl, l8, rfl, ⟨_, SqL.of ly6.at_⟩, fun D9 hD9 => lc_ad bs8 (wr_of bs8) hD9 (fun b v H => ∃ t, v = .ref t ∧ ∃ qs, LinesAt H t qs ∧ qs.map Prod.snd = b.2) (by omega) (fun H5 s5 => SqL.of (s5 _ _ ly6.at_)) ?_ ?_⟩
      · rintro j b x H10' H10 hj s10 ⟨acc, hacc⟩ ⟨rfl, hx⟩ R hR
        obtain rfl := at_ref hj hx
        obtain ⟨sd, nd, lay⟩ := ly6.each b (List.mem_of_getElem? hj)
        obtain ⟨dx, t, qs, h1, h2, h3, h4, h5⟩ := lay.same s10
        exact ⟨rfl, _, rfl, b.1, C, dx, _, _, rfl, h1, TL.cl, TL.nL, lk_lines, hR _ _ (Same.refl _) fun H11 b11 => ⟨t, rfl, qs, h4.off hacc b11, h5⟩⟩
      intro H9 xs9 s69 hL9 hlen9 hpr9
      obtain ⟨ps9, rfl, eps9, hps9⟩ := refs_of (Pr := fun t (b : Addr × List (List Str)) H => ∃ qs, LinesAt H t qs ∧ qs.map Prod.snd = b.2) bs8 xs9 hlen9 hpr9
      have tab9 : Tab H9 D9 (ps9.map fun q => (q.1, q.2.2)) := ⟨by rw [hL9, List.map_map]; rfl, fun q hq => by
        obtain ⟨q', hq', rfl⟩ := List.mem_map.mp hq
        exact hps9 q' hq'⟩
      have et9 : (ps9.map fun q => (q.1, q.2.2)).map Prod.snd = allW cs0 r0 := by
        rw [List.map_map, ← eb, ← eps9, List.map_map]
        rfl
      generalize (ps9.map fun q => (q.1, q.2.2)) = tl at tab9 et9
      have hS9 : SqL K H9 a (ns.map V.int) := by
        rcases hS6 with (h | ⟨o, h⟩) | h
        · exact .inl (.inl (s69 _ _ h))
        · exact .inl (.inr ⟨o, s69 _ _ h⟩)
        · exact .inr h
      have hd9 := s69 _ _ hd6
      have ly9 := ly6.same s69
      have tb9 := tb6.ext s69
      clear hS6 hd6 tb6 hS5 hps9 hpr9 hL9 hlen9 eps9
      have llw : (allW cs0 r0).length ≤ 720 := allW_few g0 r0
      have ltl : tl.length = (allW cs0 r0).length := by rw [← et9, List.length_map]
      have g1 : GoodCs (srtCs cs0) := good_perm (srtCs_perm g0) g0
      have es1 : srtCs (srtCs cs0) = srtCs cs0 := srtCs_same (srtCs_perm g0) g0
      have ok1 : ∀ x ∈ allW cs0 r0, LsOk (srtCs cs0) r0 x := fun x hx => (mem_allW g1).mp (by rw [allW_srt g0]; exact hx)
      obtain ⟨Wy, hWy⟩ : ∃ W, W = allW cs0 r0 := ⟨_, rfl⟩
      have hmem : ∀ x, x ∈ Wy ↔ LsOk (srtCs cs0) r0 x := fun x => by rw [hWy, ← allW_srt g0]; exact mem_allW g1
      have okn : ∀ x, LsOk (srtCs cs0) r0 x → ∀ l ∈ x, ∀ z ∈ l, PyData.strOk z = true := fun x hx l hl z hz => by
        obtain ⟨c, hc, rfl⟩ := List.mem_map.mp (hx.perm.mem_iff.mp (List.mem_flatten.mpr ⟨l, hl, hz⟩))
        exact ok_name (g1.name c hc)
      have hWnd : Wy.Nodup := by rw [hWy]; exact allW_nd g0
      refine fun lk hlk hnd => ?_
      have sk := same_new (o := NDo P w lk []) hlk
      have lk0 : LinksAt P w (upd H9 lk (NDo P w lk [])) lk [] := ⟨hnd, fun t ht => nomatch ht⟩
      refine ⟨_, rfl, l8, rfl, ⟨_, SqL.of (sk _ _ ly9.at_)⟩, for_it (wr_of bs8) (fun i' σ H' => ∃ v11 v12 v13 v14 v15 v16 v17 v18 v19 ts, σ = [some (.ref a), some (.int (0 + (i : Int))), some (.ref p), some (.ref d0), some (.ref D2), some (.int (wh : Int)), some (.int (maxOf cs0 : Int)), some (.int (r0 : Int)), some (.ref l8), some (.ref D9), some (.ref lk), v11, v12, v13, v14, v15, v16, v17, v18, v19] ∧
          Same H9 H' ∧ LinksAt P w H' lk ts ∧ ts.map Prod.fst = (bs8.map Prod.snd).take i' ∧ ∀ t ∈ ts, t.2.2.Nodup ∧ ∀ x, x ∈ t.2.2 ↔ Edge (srtCs cs0) r0 t.1 x)
        ⟨_, _, _, _, _, _, _, _, _, [], rfl, sk, lk0, rfl, fun t ht => nomatch ht⟩ (fun i' σ H' _ ⟨_, _, _, _, _, _, _, _, _, _, _, s, _⟩ => SqL.of (s _ _ ly9.at_)) ?_ ?_⟩
      · rintro j x σ H10' H10 hj ⟨v11, v12, v13, v14, v15, v16, v17, v18, v19, ts, rfl, s10, lks, ets, edg⟩ ⟨rfl, hx⟩
        have hb : bs8[j]? = some bs8[j] := List.getElem?_eq_getElem hj
        generalize bs8[j] = b at hb
        obtain rfl := at_ref hb hx
        have hbm := List.mem_of_getElem? hb
        obtain ⟨sd, nd, lay9⟩ := ly9.each b hbm
        have lay10 := lay9.same s10
        have okb := ok1 b.2 (by rw [← eb]; exact List.mem_map_of_mem hbm)
        refine fun th hth hndt => ?_
        have st := same_new (o := NDo P w th []) hth
        refine ⟨_, rfl, b.1, sd, nd, srtCs cs0, r0, b.2, rfl, lay10.same st, g1, es1, r01, r032, okb, fun lm bm Hm sm mv em => ?_⟩
        have ndm := hndt.same sm
        have s10m := st.trans sm
        have lbm : bm.length ≤ 42 := by
          have := moves_len g1 okb
          rw [← em, List.length_map] at this
          exact this
        refine ⟨lm, rfl, ⟨_, SqL.of mv.at_⟩, for_it (wr_of bm) (fun j' σ H' => ∃ v13 v14 v15 v16 v17 v18 v19 es, σ = [some (.ref a), some (.int (0 + (i : Int))), some (.ref p), some (.ref d0), some (.ref D2), some (.int (wh : Int)), some (.int (maxOf cs0 : Int)), some (.int (r0 : Int)), some (.ref l8), some (.ref D9), some (.ref lk), some (.ref b.1), some (.ref th), v13, v14, v15, v16, v17, v18, v19] ∧
            But th Hm H' ∧ ND P w H' th (ent es) ∧ es.Nodup ∧ es.length ≤ j' ∧ ∀ x, x ∈ es ↔ x ∈ (bm.take j').map fun q => q.2.2.2)
          ⟨_, _, _, _, _, _, _, [], rfl, But.refl _ _, ndm, List.nodup_nil, Nat.le_refl _, fun x => by simp⟩ (fun j' σ H' _ ⟨_, _, _, _, _, _, _, _, _, bt, _⟩ => SqL.of (mv.nd ndm bt).at_) ?_ ?_⟩
        · rintro j2 y σ H11' H11q hj2 ⟨v13, v14, v15, v16, v17, v18, v19, es, rfl, bt, nde, esn, esl, esm⟩ ⟨rfl, hy⟩
          have hq : bm[j2]? = some bm[j2] := List.getElem?_eq_getElem hj2
          generalize bm[j2] = q at hq
          obtain rfl := at_ref hq hy
          have hqm := List.mem_of_getElem? hq
          have mv' := mv.nd ndm bt
          obtain ⟨ht, sq, nq, layq⟩ := mv'.each q hqm
          obtain ⟨hz, im, m, him, hmv, eq2⟩ := mem_movesOf.mp (by rw [← em]; exact List.mem_map_of_mem hqm : (q.2.1, q.2.2.2) ∈ movesOf (srtCs cs0) r0 b.2)
          have okq : LsOk (srtCs cs0) r0 q.2.2.2 := by rw [eq2]; exact move_ok g1 okb hz him hmv
          obtain ⟨dxq, tq, qsq, u1, u2, u3, u4, u5⟩ := id layq
          have s10q : Same H10 H11q := bt.same s10m hth
          refine ⟨q.1, _, rfl, SqT.of ht, rfl, _, _, rfl, _, _, rfl, rfl, ?_⟩
          refine ⟨_, rfl, q.2.2.1, C, dxq, _, _, rfl, u1, TL.cl, TL.nL, lk_lines, _, rfl, linesD q.2.2.2, Wy.map linesD, ?_, ?_, ?_, ?_, ?_⟩
          · rw [← u5]
            exact u4.dp
          · rw [hWy, ← et9]
            exact (tab9.same (s10.trans s10q)).dp
          · exact shaped_lines (okn _ okq)
          · exact shaped_ways fun x hx => okn x ((hmem x).mp hx)
          refine ⟨_, rfl, ?_⟩
          rw [show (!(Wy.map linesD).any fun z => PyData.eqv z (linesD q.2.2.2)) = false from by
            rw [Bool.not_eq_false', List.any_eq_true]
            exact ⟨_, List.mem_map_of_mem ((hmem _).mpr okq), eqv_self (by simp only [linesD, plainD, plain_lines (okn _ okq)])⟩]
          refine iteF ⟨_, rfl, q.2.2.1, C, dxq, _, _, rfl, u1, TL.cl, TL.nR, lk_room, _, rfl, rfl, _, rfl, ?_⟩
          rw [decide_eq_true (p := V.int (r0 : Int) = V.int (r0 : Int)) rfl]
          refine iteF ?_
          refine ⟨_, rfl, _, rfl, _, rfl, b.1, sd, nd, q.2.2.1, sq, nq, srtCs cs0, r0, b.2, q.2.2.2, q.2.1, im, m, rfl, lay10.same s10q, layq, g1, es1, r01, r032, okb, hz, him, hmv, eq2, fun xb sx nx H12 s12 lx => ?_⟩
          have lay12 := (lay10.same s10q).same s12
          obtain ⟨dxx, tx, qsx, x1, x2, x3, x4, x5⟩ := id lx
          refine ⟨_, rfl, xb, dxx, _, .ref C, rfl, x1, ty_lay TE TL lay12, nf_self, xb, sx, nx, srtCs cs0, r0, b.2, .ref b.1, rfl, lx, g1.nd, okn _ okb, .inl ⟨b.1, sd, nd, srtCs cs0, r0, b.2, rfl, lay12, g1.nd, okn _ okb, fun bb hbb => ⟨_, rfl, ?_⟩⟩⟩
          obtain rfl : bb = true := hbb.mpr ⟨.refl _, rfl, rfl⟩
          have nde12 := nde.same s12
          refine ⟨_, rfl, iteF ⟨_, rfl, _, rfl, q.2.2.1, C, dxq, _, _, rfl, s12 _ _ u1, TL.cl, TL.nL, lk_lines, th, tq, ent es, wayK q.2.2.2, rfl, rfl, nde12, ?_, ?_, fun u hu => ?_⟩⟩
          · have nq := u4.nest
            rw [u5] at nq
            exact nq.same fun c ys e => s12 _ _ e
          · unfold ent
            rw [List.length_map, sizeLine_eq]
            omega
          rw [put_ent] at hu
          have bt2 : But th Hm (upd H12 th u) := fun z o hz e => by rw [upd_ne hz]; exact s12 _ _ (bt z o hz e)
          refine ⟨_, _, _, _, _, _, _, addW es q.2.2.2, rfl, bt2, hu, nd_addW esn, Nat.le_trans addW_len (by omega), fun x => ?_⟩
          rw [mem_addW, esm, List.take_add_one, hq]
          simp
        · rintro σ H11q ⟨v13, v14, v15, v16, v17, v18, v19, es, rfl, bt, nde, esn, esl, esm⟩
          have s10q : Same H10 H11q := bt.same s10m hth
          have lks' := lks.same s10q
          rw [List.take_length] at esm
          have esm' : ∀ x, x ∈ es ↔ Edge (srtCs cs0) r0 b.2 x := fun x => by
            rw [esm, ← edge_moves, ← em, List.map_map]
            rfl
          obtain ⟨dxb, tb', qsb, w1, w2, w3, w4, w5⟩ := id (lay10.same s10q)
          have hnb : b.2 ∉ ts.map Prod.fst := by
            rw [ets, eb, ← hWy]
            intro hc
            obtain ⟨j3, hj3⟩ := List.mem_iff_getElem?.mp hc
            rw [List.getElem?_take] at hj3
            split at hj3
            · rename_i hlt
              have e2 : Wy[j]? = some b.2 := by rw [hWy, ← eb, List.getElem?_map, hb]; rfl
              have hl : j3 < Wy.length := (List.getElem?_eq_some_iff.mp hj3).1
              have := (List.getElem?_inj hl hWnd).mp (hj3.trans e2.symm)
              omega
            · cases hj3
          refine ⟨_, rfl, _, rfl, _, rfl, b.1, C, dxb, _, _, rfl, w1, TL.cl, TL.nL, lk_lines, lk, tb', _, wayK b.2, rfl, rfl, lks'.nd, ?_, ?_, fun u hu => ?_⟩
          · have nq := w4.nest
            rw [w5] at nq
            exact nq
          · have := congrArg List.length ets
            rw [List.length_map, List.length_take] at this
            rw [List.length_map, sizeLine_eq]
            omega
          rw [put_links hnb] at hu
          have hthl : th ≠ lk := fun e => by
            obtain ⟨_, _, xs, h, _⟩ := lks.nd
            rw [← e, hth] at h
            cases h
          obtain ⟨_, _, xsl, hlk', _⟩ := lks'.nd
          have nt : ∀ ys, H11q lk ≠ some (.tup ys) := fun ys e => by
            rw [hlk'] at e
            exact ndo_ne (Option.some.inj e)
          refine ⟨_, _, _, _, _, _, _, _, _, ts ++ [(b.2, th, es)], rfl, same_at (s10.trans s10q) hlk, ⟨by rw [List.map_append]; exact hu, fun t ht => ?_⟩, ?_, fun t ht => ?_⟩
          · rcases List.mem_append.mp ht with ht | ht
            · exact ⟨(lks'.each t ht).1, (lks'.each t ht).2.off (Ne.symm (lks'.each t ht).1) nt⟩
            · rw [List.mem_singleton.mp ht]
              exact ⟨hthl, nde.off (Ne.symm hthl) nt⟩
          · rw [List.map_append, ets, List.take_add_one, List.getElem?_map, hb]
            rfl
          · rcases List.mem_append.mp ht with ht | ht
            · exact edg t ht
            · rw [List.mem_singleton.mp ht]
              exact ⟨esn, esm'⟩
      · rintro σ H10 ⟨v11, v12, v13, v14, v15, v16, v17, v18, v19, ts, rfl, s10, lks, ets, edg⟩
        have etW : ts.map Prod.fst = Wy := by
          rw [ets, hWy, ← eb]
          exact List.take_of_length_le (by rw [List.length_map]; exact Nat.le_refl _)
        have tab10 := tab9.same s10
        have hne : Wy ≠ [] := by
          have := (mem_allW g0).mpr (own_ok g0 rmx)
          rw [← hWy] at this
          exact List.ne_nil_of_mem this
        obtain ⟨t0, w0, tl2, rfl⟩ : ∃ t0 w0 tl2, tl = (t0, w0) :: tl2 := by
          cases tl with
          | nil => exact absurd (by rw [hWy, ← et9]; rfl) hne
          | cons q t => exact ⟨q.1, q.2, t, rfl⟩
        have w0m : w0 ∈ Wy := by rw [hWy, ← et9]; exact List.mem_cons_self
        refine fun sn hsn ndsn => ?_
        have ssn := same_new (o := NDo P w sn []) hsn
        have tabs := tab10.same ssn
        refine ⟨_, rfl, D9, _, _, .ref t0, rfl, rfl, SqL.of tabs.at_, atI_nat (j := 0) rfl, t0, wayK w0, rfl, tabs.nest List.mem_cons_self, upd_same, fun u hu => ?_⟩
        have s11 : Same H10 (upd (upd H10 sn (NDo P w sn [])) sn u) := same_at ssn hsn
        have tab11 := tab10.same s11
        refine ⟨_, rfl, D9, _, _, .ref t0, rfl, rfl, SqL.of tab11.at_, atI_nat (j := 0) rfl, (by show 1 ≤ sizeLine; decide), fun wt hwt => ⟨_, _, rfl, ?_⟩⟩
        have swt := same_new (o := .lst [.ref t0]) hwt
        have hwt10 : H10 wt = none := s11.free hwt
        have tabw : Tab (upd (upd (upd H10 sn (NDo P w sn [])) sn u) wt (.lst [.ref t0])) wt [(t0, w0)] := ⟨upd_same, fun q hq => by
          rw [List.mem_singleton.mp hq]
          exact (tab11.same swt).each _ List.mem_cons_self⟩
        refine ⟨fun m σ H' => ∃ v17 S Ws, σ = [some (.ref a), some (.int (0 + (i : Int))), some (.ref p), some (.ref d0), some (.ref D2), some (.int (wh : Int)), some (.int (maxOf cs0 : Int)), some (.int (r0 : Int)), some (.ref l8), some (.ref D9), some (.ref lk), v11, v12, v13, v14, some (.ref sn), some (.ref wt), v17, v18, v19] ∧
            Same H10 H' ∧ ND P w H' sn (ent S) ∧ Tab H' wt Ws ∧ (∀ q ∈ Ws, q.2 ∈ S) ∧ S.Nodup ∧ (∀ x ∈ S, x ∈ Wy) ∧ w0 ∈ S ∧ (∀ x ∈ S, x ∉ Ws.map Prod.snd → ∀ y, Edge (srtCs cs0) r0 x y → y ∈ S) ∧ Ws.length + (Wy.length - S.length) = m ∧ m ≤ Wy.length,
          ⟨_, _, [w0], [(t0, w0)], rfl, s11.trans swt, hu.same swt, tabw, (fun q hq => by rw [List.mem_singleton.mp hq]; exact List.mem_cons_self), by simp, (fun x hx => by rw [List.mem_singleton.mp hx]; exact w0m), List.mem_cons_self, (fun x hx hn => absurd hx hn), rfl, (by have := List.length_pos_iff.mpr hne; show 1 + (Wy.length - 1) ≤ Wy.length; omega)⟩, ?_⟩
        rintro m σ H12 ⟨v17, S, Ws, rfl, s12, ndS, tabW, wS, Snd, SW, w0S, cl, mx, mle⟩
        have s12k := lks.same s12
        have okW : ∀ q ∈ Ws, LsOk (srtCs cs0) r0 q.2 := fun q hq => (hmem _).mp (SW _ (wS q hq))
        have SWl : S.length ≤ Wy.length := nodup_len Snd SW
        refine ⟨_, rfl, Nat.zero_le _, fun e1 he1 => ?_⟩
        have se := same_new (o := .lst []) he1
        refine ⟨.list ((Ws.map Prod.snd).map linesD), .list [], (tabW.same se).dp, .lst (SqL.of upd_same) .nil, shaped_ways (fun x hx => by obtain ⟨q, hq, rfl⟩ := List.mem_map.mp hx; exact okn _ (okW q hq)), shaped_nil, _, rfl, ?_⟩
        rw [eqv_nil]
        have s13 := s12.trans se
        have ndS13 := ndS.same se
        have tab13 := tabW.same se
        have lk13 := s12k.same se
        generalize (upd H12 e1 (.lst [])) = H13 at s13 ndS13 tab13 lk13 ⊢
        rcases List.eq_nil_or_concat Ws with rfl | ⟨Ws0, ⟨x, wx⟩, eW⟩
        · refine iteF ?_
          have NW : Wy.length ≤ 720 := by rw [hWy]; exact llw
          have allS : ∀ y ∈ Wy, y ∈ S := fun y hy => all_linked g1 (S := fun z => z ∈ S) (fun c b' _ sa e => cl c sa (by simp) b' e) ((hmem _).mp w0m) ((hmem _).mp hy) w0S
          have lSW : S.length = Wy.length := Nat.le_antisymm (nodup_len Snd SW) (nodup_len hWnd allS)
          have eWy : w0 :: tl2.map Prod.snd = Wy := by rw [hWy, ← et9]; rfl
          have tabE := tab10.same s13
          have hdE := s13 _ _ (s10 _ _ hd9)
          have tbE := tb9.ext (s10.trans s13)
          have hSE : SqL K H13 a (ns.map V.int) := by
            have sE := s10.trans s13
            rcases hS9 with (h | ⟨o, h⟩) | h
            · exact .inl (.inl (sE _ _ h))
            · exact .inl (.inr ⟨o, sE _ _ h⟩)
            · exact .inr h
          refine ⟨fun σ H' => σ = [some (.ref a), some (.int (0 + (i : Int))), some (.ref p), some (.ref d0), some (.ref D2), some (.int (wh : Int)), some (.int (maxOf cs0 : Int)), some (.int (r0 : Int)), some (.ref l8), some (.ref D9), some (.ref lk), v11, v12, v13, v14, some (.ref sn), some (.ref wt), v17, v18, v19] ∧ H' = H13, ?_, ?_⟩
          · refine ⟨_, rfl, sn, ent S, rfl, ndS13, _, rfl, D9, _, rfl, .inl (SqL.of tabE.at_), rfl, _, rfl, ?_⟩
            have e1 : (ent S).length = ((((t0, w0) :: tl2).map fun q => V.ref q.1)).length := by
              unfold ent
              rw [List.length_map, List.length_map, lSW, ← eWy, List.length_cons, List.length_cons, List.length_map]
            rw [e1, decide_eq_true (p := V.int (((((t0, w0) :: tl2).map fun q => V.ref q.1).length : Nat) : Int) = V.int (((((t0, w0) :: tl2).map fun q => V.ref q.1).length : Nat) : Int)) rfl]
            refine iteF ⟨_, rfl, _, rfl, _, _, rfl, rfl, _, rfl, ?_⟩
            by_cases hge : (wh : Int) ≤ (r0 : Int)
            · rw [decide_eq_true hge]
              obtain ⟨qs0, l0, l02⟩ := tabE.each (t0, w0) List.mem_cons_self
              have one := first_one g0 (r := r0) (by rw [← hwh]; omega) (hWy.symm.trans eWy.symm)
              refine iteT ⟨_, rfl, D9, _, _, .ref t0, rfl, rfl, SqL.of tabE.at_, atI_nat (j := 0) rfl, t0, _, rfl, .inr (SqT.of l0.1), rfl, _, rfl, ?_⟩
              have e2 : (qs0.map fun q => V.ref q.1).length = 1 := by
                rw [List.length_map, ← one]
                exact (congrArg List.length l02 ▸ (List.length_map ..).symm)
              rw [e2]
              exact iteF ⟨rfl, rfl⟩
            · rw [decide_eq_false hge]
              exact iteF ⟨rfl, rfl⟩
          rintro σ H' ⟨rfl, rfl⟩
          refine ⟨_, rfl, _, rfl, d0, cs0, maxOf cs0, rfl, hdE, g0, mx1, by omega, tbE, fun l18 bs18 H18 en18 tb18 ly18 eb18 => ?_⟩
          have hS18 := Vf.SqL.ext hSE en18
          have hd18 := en18 _ _ hdE (by intro ps z; cases z)
          obtain ⟨pre, bl, rfl⟩ : ∃ pre bl, bs18 = pre ++ [bl] := by
            rcases List.eq_nil_or_concat bs18 with e | ⟨pre, bl, e⟩
            · have := (mem_allW g0).mpr (own_ok g0 (Nat.le_refl (maxOf cs0)))
              rw [← eb18, e] at this
              cases this
            · exact ⟨pre, bl, e.trans List.concat_eq_append⟩
          obtain ⟨ow, owl⟩ := last_own g0 (Nat.le_refl (maxOf cs0)) (w := bl.2) (pre := pre.map Prod.snd) (by rw [← eb18, List.map_append]; rfl)
          have okw : ∀ l ∈ ownLs cs0, ∀ z ∈ l, PyData.strOk z = true := fun l hl z hz => by
            obtain ⟨c, hc, rfl⟩ := List.mem_map.mp ((own_ok g0 (Nat.le_refl (maxOf cs0))).perm.mem_iff.mp (List.mem_flatten.mpr ⟨l, hl, hz⟩))
            exact ok_name (g0.name c hc)
          obtain ⟨sl, nl, lay18⟩ := ly18.each bl (List.mem_append_right _ List.mem_cons_self)
          rw [ow] at lay18
          have eat : atI ((pre ++ [bl]).map fun b => V.ref b.1) (-1) = some (.ref bl.1) := by
            rw [List.map_append]
            exact at_last
          refine ⟨1, rfl, l18, _, -1, .ref bl.1, rfl, rfl, SqL.of ly18.at_, eat, ?_⟩
          refine ⟨_, rfl, _, rfl, d0, cs0, rfl, hd18, g0, fun po sdo ndo H19 s19 _ _ _ _ lo => ?_⟩
          have lay19 := lay18.same s19
          obtain ⟨dxl, tl9, qsl, y1, y2, y3, y4, y5⟩ := id lay19
          refine ⟨bl.1, dxl, _, .ref C, rfl, y1, ty_lay TE TL lo, nf_self, bl.1, sl, nl, srtCs cs0, maxOf cs0, ownLs cs0, .ref po, rfl, lay19, g1.nd, okw, .inl ⟨po, sdo, ndo, srtCs cs0, maxOf cs0, ownLs cs0, rfl, lo, g1.nd, okw, fun bb hbb => ⟨_, rfl, ?_⟩⟩⟩
          obtain rfl : bb = true := hbb.mpr ⟨.refl _, rfl, rfl⟩
          have hd19 := s19 _ _ hd18
          refine ⟨_, rfl, iteF ⟨_, rfl, bl.1, C, dxl, _, _, rfl, y1, TL.cl, TL.nL, lk_lines, tl9, _, rfl, .inr (SqT.of y4.1), _, rfl, d0, _, rfl, hd19, rfl, _, rfl, ?_⟩⟩
          have e3 : (qsl.map fun q => V.ref q.1).length = (cellKv cs0).length := by
            rw [kl, ← owl, ow, ← y5, List.length_map, List.length_map]
          rw [e3, decide_eq_true (p := V.int (((cellKv cs0).length : Nat) : Int) = V.int (((cellKv cs0).length : Nat) : Int)) rfl]
          refine iteF ⟨_, _, _, _, _, _, _, _, _, _, _, _, _, _, _, _, _, _, _, rfl, ?_, tb18.ext s19⟩
          rcases hS18 with (h | ⟨o, h⟩) | h
          · exact .inl (.inl (s19 _ _ h))
          · exact .inl (.inr ⟨o, s19 _ _ h⟩)
          · exact .inr h
        · obtain rfl : Ws = Ws0 ++ [(x, wx)] := eW.trans List.concat_eq_append
          rw [decide_eq_false (p := (List.map Prod.snd (Ws0 ++ [(x, wx)])).map linesD = []) (by simp)]
          refine iteT ⟨_, fun σ' H' h => h, ?_⟩
          have wxS : wx ∈ S := wS (x, wx) (List.mem_append_right _ List.mem_cons_self)
          obtain ⟨t, htm, ht1⟩ : ∃ t ∈ ts, t.1 = wx := List.mem_map.mp (by rw [etW]; exact SW _ wxS : wx ∈ ts.map Prod.fst)
          obtain ⟨td1, td2⟩ := lk13.each t htm
          obtain ⟨f1, f2, xs, hdt, kn⟩ := id td2
          have ht10 : H10 t.2.1 ≠ none := fun e => by
            obtain ⟨_, _, xs', h, _⟩ := (lks.each t htm).2
            rw [e] at h
            cases h
          have hk10 : H10 lk ≠ none := fun e => by
            obtain ⟨_, _, xs', h, _⟩ := lks.nd
            rw [e] at h
            cases h
          have dsn : t.2.1 ≠ sn := fun e => ht10 (e ▸ hsn)
          have dwt : t.2.1 ≠ wt := fun e => ht10 (e ▸ hwt10)
          have ksn : lk ≠ sn := fun e => hk10 (e ▸ hsn)
          have kwt : lk ≠ wt := fun e => hk10 (e ▸ hwt10)
          have snwt : sn ≠ wt := fun e => by
            obtain ⟨_, _, xs', h, _⟩ := ndS13
            rw [e, tab13.at_] at h
            cases h
          have nod : ∀ ys, H13 t.2.1 ≠ some (.tup ys) := fun ys e => by rw [hdt] at e; exact ndo_ne (Option.some.inj e)
          have nowt : ∀ ys, H13 wt ≠ some (.tup ys) := fun ys e => by rw [tab13.at_] at e; cases e
          refine ⟨t.2.1, _, hdt, True.intro, fun od => ?_⟩
          have eLw : (upd H13 t.2.1 (.frz od (NDo P w t.2.1 xs))) wt = some (.lst ((Ws0 ++ [(x, wx)]).map fun q => V.ref q.1)) := by
            rw [upd_ne (Ne.symm dwt)]
            exact tab13.at_
          have nestx := tab13.nest (List.mem_append_right _ List.mem_cons_self : (x, wx) ∈ Ws0 ++ [(x, wx)])
          refine ⟨_, rfl, _, rfl, .inl ⟨rfl, _, SqL.of eLw⟩, wt, _, .ref x, rfl, rfl, eLw, by simp, ?_⟩
          have edrop : ((Ws0 ++ [(x, wx)]).map fun q => V.ref q.1).dropLast = Ws0.map fun q => V.ref q.1 := by simp
          rw [edrop]
          have tL : ∀ c ys, H13 c = some (.tup ys) → (upd (upd H13 t.2.1 (.frz od (NDo P w t.2.1 xs))) wt (.lst (Ws0.map fun q => V.ref q.1))) c = some (.tup ys) := fun c ys e => by
            rw [upd_ne (fun z : c = wt => nowt ys (z ▸ e)), upd_ne (fun z : c = t.2.1 => nod ys (z ▸ e))]
            exact e
          have nowt2 : ∀ ys, (upd H13 t.2.1 (.frz od (NDo P w t.2.1 xs))) wt ≠ some (.tup ys) := fun ys e => by rw [eLw] at e; cases e
          have offL : ∀ {b : Addr} {kvs : List (NK × V)}, ND P w H13 b kvs → t.2.1 ≠ b → wt ≠ b → ND P w (upd (upd H13 t.2.1 (.frz od (NDo P w t.2.1 xs))) wt (.lst (Ws0.map fun q => V.ref q.1))) b kvs := fun d h1 h2 => (d.off h1 nod).off h2 nowt2
          have ndL := offL ndS13 dsn (Ne.symm snwt)
          have lkL := offL lk13.nd td1 (Ne.symm kwt)
          have frL : (upd (upd H13 t.2.1 (.frz od (NDo P w t.2.1 xs))) wt (.lst (Ws0.map fun q => V.ref q.1))) t.2.1 = some (.frz od (NDo P w t.2.1 xs)) := by rw [upd_ne dwt, upd_same]
          have tabL : Tab (upd (upd H13 t.2.1 (.frz od (NDo P w t.2.1 xs))) wt (.lst (Ws0.map fun q => V.ref q.1))) wt Ws0 := tab13.tups upd_same tL fun q hq => List.mem_append_left _ hq
          have knL := kn.keeps tL
          have nestL := nestx.same tL
          have back : ∀ {H' : Hp}, (∀ b o, b ≠ sn → b ≠ wt → (upd (upd H13 t.2.1 (.frz od (NDo P w t.2.1 xs))) wt (.lst (Ws0.map fun q => V.ref q.1))) b = some o → H' b = some o) → Same H10 (upd H' t.2.1 (NDo P w t.2.1 xs)) := fun st b o e => by
            have e13 := s13 _ _ e
            by_cases hb : b = t.2.1
            · subst hb
              rw [hdt] at e13
              rw [upd_same]
              exact e13
            · have bsn : b ≠ sn := fun z => by rw [z, hsn] at e; cases e
              have bwt : b ≠ wt := fun z => by rw [z, hwt10] at e; cases e
              rw [upd_ne hb]
              exact st _ _ bsn bwt (by rw [upd_ne bwt, upd_ne hb]; exact e13)
          generalize (upd (upd H13 t.2.1 (.frz od (NDo P w t.2.1 xs))) wt (.lst (Ws0.map fun q => V.ref q.1))) = HL at ndL lkL frL tabL knL nestL back ⊢
          have tsnd : (ts.map Prod.fst).Nodup := by rw [etW]; exact hWnd
          refine ⟨lk, x, _, wayK wx, .ref t.2.1, rfl, rfl, lkL, nestL, (by rw [← ht1]; exact val_links htm tsnd), ?_⟩
          obtain ⟨eds, edm⟩ := edg t htm
          have lxs : xs.length = t.2.2.length := by rw [kn_len knL]; exact List.length_map ..
          have lS : S.length ≤ Wy.length := nodup_len Snd SW
          refine ⟨t.2.1, od, xs, rfl, f2, frL, for_it walk_keysN (fun i'' σ H' => ∃ v17 S' Ws', σ = [some (.ref a), some (.int (0 + (i : Int))), some (.ref p), some (.ref d0), some (.ref D2), some (.int (wh : Int)), some (.int (maxOf cs0 : Int)), some (.int (r0 : Int)), some (.ref l8), some (.ref D9), some (.ref lk), v11, v12, v13, v14, some (.ref sn), some (.ref wt), v17, v18, v19] ∧
              (∀ b o, b ≠ sn → b ≠ wt → HL b = some o → H' b = some o) ∧ ND P w H' sn (ent S') ∧ Tab H' wt Ws' ∧ (∀ q ∈ Ws', q.2 ∈ S') ∧ S'.Nodup ∧ (∀ x ∈ S', x ∈ Wy) ∧ (∀ x ∈ S, x ∈ S') ∧ (∀ x ∈ S', x ∉ Ws'.map Prod.snd → x = wx ∨ ∀ y, Edge (srtCs cs0) r0 x y → y ∈ S') ∧
              (∀ y ∈ t.2.2.take i'', y ∈ S') ∧ Ws'.length + (Wy.length - S'.length) = Ws0.length + (Wy.length - S.length))
            ⟨_, S, Ws0, rfl, (fun b o _ _ e => e), ndL, tabL, (fun q hq => wS q (List.mem_append_left _ hq)), Snd, SW, (fun x hx => hx), (fun y hy hn => ?_), (fun y hy => by simp at hy), rfl⟩ (fun i'' σ H' _ ⟨_, _, _, _, st, _⟩ => st _ _ dsn dwt frL) ?_ ?_⟩
          · by_cases e : y = wx
            · exact .inl e
            · refine .inr (cl y hy fun hc => ?_)
              rw [List.map_append, List.mem_append] at hc
              rcases hc with hc | hc
              · exact hn hc
              · exact e (List.mem_singleton.mp hc)
          · rintro i'' y σ H14' H14 hi'' ⟨v17', S', Ws', rfl, st, nd', tab', wS', Snd', SW', SS', cl', tk', mx'⟩ ⟨rfl, kk, q, v, hx, rfl⟩
            have NW : Wy.length ≤ 720 := by rw [hWy]; exact llw
            have lS' : S'.length ≤ Wy.length := nodup_len Snd' SW'
            have mx2 : (Ws0 ++ [(x, wx)]).length = Ws0.length + 1 := by rw [List.length_append]; rfl
            obtain ⟨kv, hkv, nq⟩ := kn_get knL hx
            obtain ⟨y, hy, rfl⟩ : ∃ y, t.2.2[i'']? = some y ∧ (wayK y, V.bl true) = kv := by
              unfold ent at hkv
              rw [List.getElem?_map] at hkv
              cases e : t.2.2[i'']? with
              | none => rw [e] at hkv; cases hkv
              | some y => rw [e] at hkv; exact ⟨y, rfl, Option.some.inj hkv⟩
            have tup14 : ∀ c ys, HL c = some (.tup ys) → H14 c = some (.tup ys) := fun c ys e => st c _ (fun z => by
              obtain ⟨_, _, xs', h, _⟩ := ndL
              rw [z, h] at e
              exact ndo_ne (Option.some.inj e)) (fun z => by
              rw [z, tabL.at_] at e
              cases e) e
            have nq14 : NestH H14 q (wayK y) := nq.same tup14
            have yW : y ∈ Wy := (hmem _).mpr (((edm y).mp (List.mem_of_getElem? hy)).ok g1 ((hmem _).mp (by rw [ht1]; exact SW _ wxS)))
            have tks : t.2.2.take (i'' + 1) = t.2.2.take i'' ++ [y] := by rw [List.take_add_one, hy]; rfl
            refine ⟨_, rfl, _, rfl, sn, q, ent S', wayK y, rfl, rfl, nd', nq14, _, rfl, ?_⟩
            rw [val_ent]
            by_cases hyS : y ∈ S'
            · rw [decide_eq_true hyS]
              refine iteF ⟨_, S', Ws', rfl, st, nd', tab', wS', Snd', SW', SS', cl', fun z hz => ?_, mx'⟩
              rw [tks] at hz
              rcases List.mem_append.mp hz with hz | hz
              · exact tk' z hz
              · rw [List.mem_singleton.mp hz]
                exact hyS
            · rw [decide_eq_false hyS]
              have nosn : ∀ ys, H14 sn ≠ some (.tup ys) := fun ys e => by
                obtain ⟨_, _, xs', h, _⟩ := nd'
                rw [h] at e
                exact ndo_ne (Option.some.inj e)
              refine iteT ⟨_, rfl, _, rfl, sn, q, ent S', wayK y, rfl, rfl, nd', nq14, (by unfold ent; rw [List.length_map, sizeLine_eq]; omega), fun u hu => ?_⟩
              rw [put_ent] at hu
              have ew : (upd H14 sn u) wt = some (.lst (Ws'.map fun q => V.ref q.1)) := by
                rw [upd_ne (Ne.symm snwt)]
                exact tab'.at_
              have nowt3 : ∀ ys, (upd H14 sn u) wt ≠ some (.tup ys) := fun ys e => by rw [ew] at e; cases e
              have t15 : ∀ c ys, H14 c = some (.tup ys) → (upd H14 sn u) c = some (.tup ys) := fun c ys e => by
                rw [upd_ne (fun z : c = sn => nosn ys (z ▸ e))]
                exact e
              have t16 : ∀ c ys, H14 c = some (.tup ys) → (upd (upd H14 sn u) wt (.lst ((Ws'.map fun q => V.ref q.1) ++ [.ref q]))) c = some (.tup ys) := fun c ys e => by
                rw [upd_ne (fun z : c = wt => nowt3 ys (z ▸ t15 c ys e))]
                exact t15 c ys e
              have eadd : addW S' y = S' ++ [y] := if_neg hyS
              have nl : (addW S' y).length ≤ Wy.length := nodup_len (nd_addW Snd') fun z hz => (mem_addW.mp hz).elim (SW' z) fun e => e ▸ yW
              have al : (addW S' y).length = S'.length + 1 := by rw [eadd, List.length_append]; rfl
              have WsL : Ws'.length ≤ Wy.length := by omega
              refine ⟨_, rfl, .inl ⟨rfl, _, SqL.of ew⟩, _, rfl, wt, _, _, rfl, rfl, ew, (by rw [List.length_map, sizeLine_eq]; omega), ?_⟩
              refine ⟨_, addW S' y, Ws' ++ [(q, y)], rfl, fun b o h1 h2 e => ?_, hu.off (Ne.symm snwt) nowt3, ⟨by rw [upd_same, List.map_append]; rfl, fun z hz => ?_⟩, fun z hz => ?_, nd_addW Snd', fun z hz => (mem_addW.mp hz).elim (SW' z) fun e => e ▸ yW, fun z hz => mem_addW.mpr (.inl (SS' z hz)), fun z hz hn => ?_, fun z hz => ?_, ?_⟩
              · rw [upd_ne h2, upd_ne h1]
                exact st b o h1 h2 e
              · rcases List.mem_append.mp hz with hz | hz
                · obtain ⟨qs, a1, b1⟩ := tab'.each z hz
                  exact ⟨qs, ⟨t16 _ _ a1.1, fun c hc => t16 _ _ (a1.2 c hc)⟩, b1⟩
                · rw [List.mem_singleton.mp hz]
                  exact nest_lines (nq14.same t16)
              · rcases List.mem_append.mp hz with hz | hz
                · exact mem_addW.mpr (.inl (wS' z hz))
                · rw [List.mem_singleton.mp hz]
                  exact mem_addW.mpr (.inr rfl)
              · rw [List.map_append, List.mem_append] at hn
                have hz' : z ∈ S' := (mem_addW.mp hz).resolve_right fun e => hn (.inr (by rw [e]; exact List.mem_cons_self))
                exact (cl' z hz' fun hc => hn (.inl hc)).imp id fun f y2 e => mem_addW.mpr (.inl (f y2 e))
              · rw [tks] at hz
                rcases List.mem_append.mp hz with hz | hz
                · exact mem_addW.mpr (.inl (tk' z hz))
                · rw [List.mem_singleton.mp hz]
                  exact mem_addW.mpr (.inr rfl)
              · rw [List.length_append, al]
                show Ws'.length + 1 + _ = _
                omega
          · rintro σ H14 ⟨v17', S', Ws', rfl, st, nd', tab', wS', Snd', SW', SS', cl', tk', mx'⟩
            have fr14 := st _ _ dsn dwt frL
            have nof : ∀ ys, H14 t.2.1 ≠ some (.tup ys) := fun ys e => by rw [fr14] at e; cases e
            have mx2 : (Ws0 ++ [(x, wx)]).length = Ws0.length + 1 := by rw [List.length_append]; rfl
            rw [lxs, List.take_length] at tk'
            refine ⟨fr14, Ws'.length + (Wy.length - S'.length), by omega, _, S', Ws', rfl, back st, nd'.off dsn nof, tab'.tups (by rw [upd_ne (Ne.symm dwt)]; exact tab'.at_) (fun c ys e => by rw [upd_ne (fun z : c = t.2.1 => nof ys (z ▸ e))]; exact e) (fun q hq => hq), wS', Snd', SW', SS' _ w0S, fun z hz hn y e => ?_, rfl, by omega⟩
            rcases cl' z hz hn with rfl | f
            · exact tk' y ((edm y).mpr (by rw [ht1]; exact e))
            · exact f y e
    · rintro σ H2 ⟨v1, v2, v3, v4, v5, v6, v7, v8, v9, v10, v11, v12, v13, v14, v15, v16, v17, v18, v19, rfl, hS2, tb2⟩
      exact k H2
end
end Vf

set_option maxRecDepth 100000
set_option maxHeartbeats 16000000
namespace Vf
open PySem PySem.Spec PyProof.Rows L2 ClX NdefX
theorem all_mk {l : PySem.W.OpenLaw} {w : World} {K : PySem.W.Frag} {h : Heap} {mg : Str → Option Value} {fa C CU CB fU cU kU NU : Addr} (X : K.In h) (G : h.Ns mainGlobals mg) (hfa : mg "law" = some (.ref fa))
    {f1 f2 f3 f4 f5 f6 f7 f8 f9 f10 f11 f12 f13 f14 f15 f16 f17 f18 f19 f20 f21 f22 f23 f24 : Addr} {od1 an1 od2 an2 od3 an3 od4 an4 od5 an5 od6 an6 od7 an7 od8 an8 od9 an9 od10 an10 od11 an11 od12 an12 od13 an13 od14 an14 od15 an15 od16 an16 od17 an17 od18 an18 od19 an19 od20 an20 od21 an21 od22 an22 od23 an23 od24 an24 : Option Addr} {sl1 sl2 sl3 sl4 sl5 sl6 sl7 sl8 sl9 sl10 sl11 sl12 sl13 sl14 sl15 sl16 sl17 sl18 sl19 sl20 sl21 sl22 sl23 sl24 : Array (Option Value)} {oc1 kV1 dc1 pm1 cd1 cx1 oc2 kV2 dc2 pm2 cd2 cx2 oc3 kV3 dc3 pm3 cd3 cx3 oc4 kV4 dc4 pm4 cd4 cx4 oc5 kV5 dc5 pm5 cd5 cx5 oc6 kV6 dc6 pm6 cd6 cx6 oc7 kV7 dc7 pm7 cd7 cx7 oc8 kV8 dc8 pm8 cd8 cx8 oc9 kV9 dc9 pm9 cd9 cx9 oc10 kV10 dc10 pm10 cd10 cx10 oc11 kV11 dc11 pm11 cd11 cx11 oc12 kV12 dc12 pm12 cd12 cx12 oc13 kV13 dc13 pm13 cd13 cx13 oc14 kV14 dc14 pm14 cd14 cx14 oc15 kV15 dc15 pm15 cd15 cx15 oc16 kV16 dc16 pm16 cd16 cx16 oc17 kV17 dc17 pm17 cd17 cx17 oc18 kV18 dc18 pm18 cd18 cx18 oc19 kV19 dc19 pm19 cd19 cx19 oc20 kV20 dc20 pm20 cd20 cx20 oc21 kV21 dc21 pm21 cd21 cx21 oc22 kV22 dc22 pm22 cd22 cx22 oc23 kV23 dc23 pm23 cd23 cx23 oc24 kV24 dc24 pm24 cd24 cx24 : Value} {t1 t2 t3 t4 : Tok}
    {nmU qU flU : Str} {bsU bmU subU : List Value} {snU : List Str} {abU : Bool} {colU : Option Bool} {ddU odU cldU cddU : Option Addr} {m0U m1U m2U m3U m5U : Option Value} {ocU dcU pmU ctU clU cclU : Value} {slU cslU ccsU : Array (Option Value)} {vsU : Array Value} {tfU : Tok}
    {cT Tb : Addr} {oT : Value} {odT : Option Addr} {vsT : Array Value} {slT : Array (Option Value)}
    (aC : PySem.W.nsIn K mainGlobals "Layout" = some (some (.ref C))) (a1 : PySem.W.nsIn K mainGlobals "is_integer" = some (some (.ref f1))) (l1 : K.lookup f1 = some ⟨oc1, od1, .func (PySem.W.fnOf "is_integer" "is_integer" (defArgs s_is_integer) (defBody s_is_integer) (defScope s_is_integer) .none kV1 dc1 pm1 an1 cd1 cx1), sl1⟩) (c1 : PySem.W.codeIn K cd1 "is_integer" = true)
    (k1 : PySem.W.keepIn K (.ref f1) = true) (a2 : PySem.W.nsIn K mainGlobals "is_integer_within" = some (some (.ref f2))) (l2 : K.lookup f2 = some ⟨oc2, od2, .func (PySem.W.fnOf "is_integer_within" "is_integer_within" (defArgs s_is_integer_within) (defBody s_is_integer_within) (defScope s_is_integer_within) .none kV2 dc2 pm2 an2 cd2 cx2), sl2⟩) (c2 : PySem.W.codeIn K cd2 "is_integer_within" = true)
    (k2 : PySem.W.keepIn K (.ref f2) = true) (a3 : PySem.W.nsIn K mainGlobals "is_name" = some (some (.ref f3))) (l3 : K.lookup f3 = some ⟨oc3, od3, .func (PySem.W.fnOf "is_name" "is_name" (defArgs s_is_name) (defBody s_is_name) (defScope s_is_name) .none kV3 dc3 pm3 an3 cd3 cx3), sl3⟩) (c3 : PySem.W.codeIn K cd3 "is_name" = true)
    (k3 : PySem.W.keepIn K (.ref f3) = true) (a4 : PySem.W.nsIn K mainGlobals "own" = some (some (.ref f4))) (l4 : K.lookup f4 = some ⟨oc4, od4, .func (PySem.W.fnOf "own" "own" (defArgs s_own) (defBody s_own) (defScope s_own) .none kV4 dc4 pm4 an4 cd4 cx4), sl4⟩) (c4 : PySem.W.codeIn K cd4 "own" = true)
    (k4 : PySem.W.keepIn K (.ref f4) = true) (a5 : PySem.W.nsIn K mainGlobals "all_layouts" = some (some (.ref f5))) (l5 : K.lookup f5 = some ⟨oc5, od5, .func (PySem.W.fnOf "all_layouts" "all_layouts" (defArgs s_all_layouts) (defBody s_all_layouts) (defScope s_all_layouts) .none kV5 dc5 pm5 an5 cd5 cx5), sl5⟩) (c5 : PySem.W.codeIn K cd5 "all_layouts" = true)
    (k5 : PySem.W.keepIn K (.ref f5) = true) (a6 : PySem.W.nsIn K mainGlobals "_check_cells" = some (some (.ref f6))) (l6 : K.lookup f6 = some ⟨oc6, od6, .func (PySem.W.fnOf "_check_cells" "_check_cells" (defArgs s_check_cells) (defBody s_check_cells) (defScope s_check_cells) .none kV6 dc6 pm6 an6 cd6 cx6), sl6⟩) (c6 : PySem.W.codeIn K cd6 "_check_cells" = true)
    (k6 : PySem.W.keepIn K (.ref f6) = true) (a7 : PySem.W.nsIn K mainGlobals "_check_room" = some (some (.ref f7))) (l7 : K.lookup f7 = some ⟨oc7, od7, .func (PySem.W.fnOf "_check_room" "_check_room" (defArgs s_check_room) (defBody s_check_room) (defScope s_check_room) .none kV7 dc7 pm7 an7 cd7 cx7), sl7⟩) (c7 : PySem.W.codeIn K cd7 "_check_room" = true)
    (k7 : PySem.W.keepIn K (.ref f7) = true) (a8 : PySem.W.nsIn K mainGlobals "_are_lines" = some (some (.ref f8))) (l8 : K.lookup f8 = some ⟨oc8, od8, .func (PySem.W.fnOf "_are_lines" "_are_lines" (defArgs s_are_lines) (defBody s_are_lines) (defScope s_are_lines) .none kV8 dc8 pm8 an8 cd8 cx8), sl8⟩) (c8 : PySem.W.codeIn K cd8 "_are_lines" = true)
    (k8 : PySem.W.keepIn K (.ref f8) = true) (a9 : PySem.W.nsIn K mainGlobals "_is_line" = some (some (.ref f9))) (l9 : K.lookup f9 = some ⟨oc9, od9, .func (PySem.W.fnOf "_is_line" "_is_line" (defArgs s_is_line) (defBody s_is_line) (defScope s_is_line) .none kV9 dc9 pm9 an9 cd9 cx9), sl9⟩) (c9 : PySem.W.codeIn K cd9 "_is_line" = true)
    (k9 : PySem.W.keepIn K (.ref f9) = true) (a10 : PySem.W.nsIn K mainGlobals "_filled" = some (some (.ref f10))) (l10 : K.lookup f10 = some ⟨oc10, od10, .func (PySem.W.fnOf "_filled" "_filled" (defArgs s_filled) (defBody s_filled) (defScope s_filled) .none kV10 dc10 pm10 an10 cd10 cx10), sl10⟩) (c10 : PySem.W.codeIn K cd10 "_filled" = true)
    (k10 : PySem.W.keepIn K (.ref f10) = true) (a11 : PySem.W.nsIn K mainGlobals "_with_cell" = some (some (.ref f11))) (l11 : K.lookup f11 = some ⟨oc11, od11, .func (PySem.W.fnOf "_with_cell" "_with_cell" (defArgs s_with_cell) (defBody s_with_cell) (defScope s_with_cell) .none kV11 dc11 pm11 an11 cd11 cx11), sl11⟩) (c11 : PySem.W.codeIn K cd11 "_with_cell" = true)
    (k11 : PySem.W.keepIn K (.ref f11) = true) (a12 : PySem.W.nsIn K mainGlobals "_law_feed" = some (some (.ref f12))) (l12 : K.lookup f12 = some ⟨oc12, od12, .func (PySem.W.fnOf "_law_feed" "_law_feed" (defArgs s_law_feed) (defBody s_law_feed) (defScope s_law_feed) .none kV12 dc12 pm12 an12 cd12 cx12), sl12⟩) (c12 : PySem.W.codeIn K cd12 "_law_feed" = true)
    (k12 : PySem.W.keepIn K (.ref f12) = true) (a13 : PySem.W.nsIn K mainGlobals "_law_take" = some (some (.ref f13))) (l13 : K.lookup f13 = some ⟨oc13, od13, .func (PySem.W.fnOf "_law_take" "_law_take" (defArgs s_law_take) (defBody s_law_take) (defScope s_law_take) .none kV13 dc13 pm13 an13 cd13 cx13), sl13⟩) (c13 : PySem.W.codeIn K cd13 "_law_take" = true)
    (k13 : PySem.W.keepIn K (.ref f13) = true) (a14 : PySem.W.nsIn K mainGlobals "_law_pick" = some (some (.ref f14))) (l14 : K.lookup f14 = some ⟨oc14, od14, .func (PySem.W.fnOf "_law_pick" "_law_pick" (defArgs s_law_pick) (defBody s_law_pick) (defScope s_law_pick) .none kV14 dc14 pm14 an14 cd14 cx14), sl14⟩) (c14 : PySem.W.codeIn K cd14 "_law_pick" = true)
    (k14 : PySem.W.keepIn K (.ref f14) = true) (a15 : PySem.W.nsIn K mainGlobals "_law_word" = some (some (.ref f15))) (l15 : K.lookup f15 = some ⟨oc15, od15, .func (PySem.W.fnOf "_law_word" "_law_word" (defArgs s_law_word) (defBody s_law_word) (defScope s_law_word) .none kV15 dc15 pm15 an15 cd15 cx15), sl15⟩) (c15 : PySem.W.codeIn K cd15 "_law_word" = true)
    (k15 : PySem.W.keepIn K (.ref f15) = true) (a16 : PySem.W.nsIn K mainGlobals "_law_cells" = some (some (.ref f16))) (l16 : K.lookup f16 = some ⟨oc16, od16, .func (PySem.W.fnOf "_law_cells" "_law_cells" (defArgs s_law_cells) (defBody s_law_cells) (defScope s_law_cells) .none kV16 dc16 pm16 an16 cd16 cx16), sl16⟩) (c16 : PySem.W.codeIn K cd16 "_law_cells" = true)
    (k16 : PySem.W.keepIn K (.ref f16) = true) (a17 : PySem.W.nsIn K mainGlobals "_law_moves" = some (some (.ref f17))) (l17 : K.lookup f17 = some ⟨oc17, od17, .func (PySem.W.fnOf "_law_moves" "_law_moves" (defArgs s_law_moves) (defBody s_law_moves) (defScope s_law_moves) .none kV17 dc17 pm17 an17 cd17 cx17), sl17⟩) (c17 : PySem.W.codeIn K cd17 "_law_moves" = true)
    (k17 : PySem.W.keepIn K (.ref f17) = true) (a18 : PySem.W.nsIn K mainGlobals "_law_back" = some (some (.ref f18))) (l18 : K.lookup f18 = some ⟨oc18, od18, .func (PySem.W.fnOf "_law_back" "_law_back" (defArgs s_law_back) (defBody s_law_back) (defScope s_law_back) .none kV18 dc18 pm18 an18 cd18 cx18), sl18⟩) (c18 : PySem.W.codeIn K cd18 "_law_back" = true)
    (k18 : PySem.W.keepIn K (.ref f18) = true) (a19 : PySem.W.nsIn K mainGlobals "law" = some (some (.ref f19))) (l19 : K.lookup f19 = some ⟨oc19, od19, .func (PySem.W.fnOf "law" "law" (defArgs s_law) (defBody s_law) (defScope s_law) .none kV19 dc19 pm19 an19 cd19 cx19), sl19⟩) (c19 : PySem.W.codeIn K cd19 "law" = true)
    (k19 : PySem.W.keepIn K (.ref f19) = true) (a20 : PySem.W.findIn K (.ref C) "__init__" = some (some (.ref f20))) (i20 : PySem.W.isFn K (.ref f20) = true) (l20 : K.lookup f20 = some ⟨oc20, od20, .func (PySem.W.fnOf "__init__" "Layout.__init__" (defArgs s_Layout_init) (defBody s_Layout_init) (defScope s_Layout_init) .none kV20 dc20 pm20 an20 cd20 cx20), sl20⟩)
    (c20 : PySem.W.codeIn K cd20 "Layout.__init__" = true) (k20 : PySem.W.keepIn K (.ref f20) = true) (a21 : PySem.W.findIn K (.ref C) "__eq__" = some (some (.ref f21))) (i21 : PySem.W.isFn K (.ref f21) = true)
    (l21 : K.lookup f21 = some ⟨oc21, od21, .func (PySem.W.fnOf "__eq__" "Layout.__eq__" (defArgs s_Layout_eq) (defBody s_Layout_eq) (defScope s_Layout_eq) .none kV21 dc21 pm21 an21 cd21 cx21), sl21⟩) (c21 : PySem.W.codeIn K cd21 "Layout.__eq__" = true) (k21 : PySem.W.keepIn K (.ref f21) = true) (a22 : PySem.W.findIn K (.ref C) "cells" = some (some (.ref f22)))
    (i22 : PySem.W.isFn K (.ref f22) = true) (l22 : K.lookup f22 = some ⟨oc22, od22, .func (PySem.W.fnOf "cells" "Layout.cells" (defArgs s_Layout_cells) (defBody s_Layout_cells) (defScope s_Layout_cells) .none kV22 dc22 pm22 an22 cd22 cx22), sl22⟩) (c22 : PySem.W.codeIn K cd22 "Layout.cells" = true) (k22 : PySem.W.keepIn K (.ref f22) = true)
    (a23 : PySem.W.findIn K (.ref C) "line_of" = some (some (.ref f23))) (i23 : PySem.W.isFn K (.ref f23) = true) (l23 : K.lookup f23 = some ⟨oc23, od23, .func (PySem.W.fnOf "line_of" "Layout.line_of" (defArgs s_Layout_line_of) (defBody s_Layout_line_of) (defScope s_Layout_line_of) .none kV23 dc23 pm23 an23 cd23 cx23), sl23⟩) (c23 : PySem.W.codeIn K cd23 "Layout.line_of" = true)
    (k23 : PySem.W.keepIn K (.ref f23) = true) (a24 : PySem.W.findIn K (.ref C) "moved" = some (some (.ref f24))) (i24 : PySem.W.isFn K (.ref f24) = true) (l24 : K.lookup f24 = some ⟨oc24, od24, .func (PySem.W.fnOf "moved" "Layout.moved" (defArgs s_Layout_moved) (defBody s_Layout_moved) (defScope s_Layout_moved) .none kV24 dc24 pm24 an24 cd24 cx24), sl24⟩)
    (c24 : PySem.W.codeIn K cd24 "Layout.moved" = true) (k24 : PySem.W.keepIn K (.ref f24) = true) (pgC : PySem.W.plainGet K C Str.empty = true) (hdC : PySem.W.hasDictIn K C = true)
    (poC : PySem.W.plainOver K C = true) (saC : PySem.W.findIn K (.ref C) "__setattr__" = some (some (.builtin "object.__setattr__"))) (mkC : PySem.W.makesIn K C = true) (kcC : PySem.W.keepIn K (.ref C) = true)
    (tyC : PySem.W.typeIn K (.ref C) = some (.type "type")) (clC : PySem.W.isClsIn K C = true) (hacC : PySem.W.findIn K (.ref C) "__class__" = some (some (.builtin "object.__class__"))) (hncC : PySem.W.specialIn K (.builtin "object.__class__") "__get__" = some (some (.builtin "getset_descriptor.__get__")))
    (tkcC : PySem.W.takesIn K (.builtin "object.__class__") = some true) (obC : PySem.W.mroIn K C (.type "object") = some true) (neC : PySem.W.findIn K (.ref C) "__ne__" = some (some (.builtin "object.__ne__"))) (nC0 : PySem.W.findIn K (.ref C) "_sizes" = some none)
    (nC1 : PySem.W.findIn K (.ref C) "room" = some none) (nC2 : PySem.W.findIn K (.ref C) "lines" = some none) (nC3 : PySem.W.findIn K (.ref C) "_numbers" = some none) (eAU : PySem.W.nsIn K mainGlobals "UnknownCell" = some (some (.ref CU)))
    (eXU : K.lookup CU = some (excClassObj nmU qU CU NU bsU bmU true snU subU abU colU ddU m0U m1U m2U m3U m5U "ValueError.__new__")) (eIU : PySem.W.findIn K (.ref CU) "__init__" = some (some (.ref fU))) (eTU : PySem.W.typeIn K (.ref fU) = some (.type "function")) (eLU : K.lookup fU = some ⟨ocU, odU, .func (PySem.W.fnX "__init__" "UnknownCell.__init__" (defArgs s_UnknownCell_init) (defBody s_UnknownCell_init) (defScope s_UnknownCell_init) [(("__class__" : Str), cU)] .none .none dcU pmU none (.ref kU) ctU), slU⟩)
    (eCU : PySem.W.codeIn K (.ref kU) "UnknownCell.__init__" = true) (e0U : K.lookup cU = some ⟨clU, cldU, .cell (some (.ref CU)), cslU⟩) (eKU : K.lookup kU = some ⟨cclU, cddU, .fields vsU, ccsU⟩) (e1U : PySem.W.findIn K (.ref CU) "__setattr__" = some (some (.builtin "object.__setattr__")))
    (e2U : PySem.W.findIn K (.ref CU) "__getattribute__" = some (some (.builtin "BaseException.__getattribute__"))) (e3U : PySem.W.findIn K (.ref CU) "__getattr__" = some none) (e4U : PySem.W.findIn K (.ref CU) "cell" = some none) (e5U : PySem.W.keepIn K (.ref CU) = true)
    (e6U : PySem.W.subIn K (.ref CU) (.type "BaseException") = some true) (e7U : PySem.W.typeIn K (.ref CU) = some (.type "type")) (e8U : PySem.W.hasDictIn K CU = true) (e9U : PySem.W.isClsIn K CU = true)
    (e10U : PySem.W.subIn K (.ref CU) (.ref CU) = some true) (e11U : PySem.W.mroIn K CU (.ref CU) = some true) (e12U : PySem.W.ks_superIn K CU CU "__init__" = some (some (.builtin "ValueError.__init__"))) (e13U : PySem.W.subIn K (.ref CU) (.type "ValueError") = some true)
    (e14U : PySem.W.nsIn K cStatics "thirdparty.any" = some none) (xAB : PySem.W.nsIn K mainGlobals "BadLine" = some (some (.ref CB))) (xEB : PySem.W.excIn K CB [.type "ValueError", .type "Exception", .type "BaseException", .type "object"] "ValueError.__new__" = true) (xKB : PySem.W.keepIn K (.ref CB) = true)
    (xBB : PySem.W.subIn K (.ref CB) (.type "BaseException") = some true) (xTB : PySem.W.typeIn K (.ref CB) = some (.type "type")) (xCB : PySem.W.isClsIn K CB = true) (xSB : PySem.W.subIn K (.ref CB) (.ref CB) = some true)
    (tC : cd5 = .ref cT) (tL : K.lookup cT = some ⟨oT, odT, .fields vsT, slT⟩) (tV : vsT[11]? = some (.ref Tb)) (tH : PySem.W.codeHdIn K cT Tb = true)
    (tN : K.lookup Tb = none) (tM : h.get? Tb = some { cls := .none, data := .fields #[] }) (ct1 : PySem.W.nsIn K mainGlobals "LONGEST_NAME" = some (some (.int 8 t1))) (ct2 : PySem.W.nsIn K mainGlobals "MOST_CELLS" = some (some (.int 6 t2)))
    (ct3 : PySem.W.nsIn K mainGlobals "LARGEST_SIZE" = some (some (.int 8 t3))) (ct4 : PySem.W.nsIn K mainGlobals "LARGEST_ROOM" = some (some (.int 32 t4))) (z1 : PySem.W.nsIn K mainGlobals "len" = some none) (z2 : PySem.W.nsIn K mainGlobals "isinstance" = some none)
    (z3 : PySem.W.nsIn K mainGlobals "all" = some none) (z4 : PySem.W.nsIn K mainGlobals "str" = some none) (z5 : PySem.W.nsIn K mainGlobals "int" = some none) (z6 : PySem.W.nsIn K mainGlobals "bool" = some none)
    (z7 : PySem.W.nsIn K mainGlobals "dict" = some none) (z8 : PySem.W.nsIn K mainGlobals "list" = some none) (z9 : PySem.W.nsIn K mainGlobals "sum" = some none) (z10 : PySem.W.nsIn K mainGlobals "sorted" = some none)
    (z11 : PySem.W.nsIn K mainGlobals "tuple" = some none) (z12 : PySem.W.nsIn K mainGlobals "enumerate" = some none) (z13 : PySem.W.nsIn K mainGlobals "max" = some none) (z14 : PySem.W.nsIn K mainGlobals "abs" = some none)
    (z15 : PySem.W.nsIn K mainGlobals "range" = some none) (z16 : PySem.W.nsIn K mainGlobals "set" = some none) (z17 : PySem.W.nsIn K mainGlobals "repr" = some none) (z18 : PySem.W.nsIn K mainGlobals "min" = some none)
    (z19 : PySem.W.nsIn K mainGlobals "super" = some none) (vBU : PySem.HandSPX.refsVE bmU = true) (vFU : vsU[2]? = some (.str flU tfU)) (vGU : ((l.prog.main.file : Str) == flU) = true)
    (vTU : (l.prog.main.scope.names.lookup ("super" : Str)).isSome = false) :
    ∃ (fd : FuncData) (c T : Addr), (∀ (s : Shared) (v : Value), BindsTo s fd ⟨[v], []⟩ [("script", v)]) ∧ h.get? T = some { cls := .none, data := .fields #[] } ∧ K.lookup T = none ∧ PySem.W.CodeHd h c T ∧ ∀ base : Heap, K.In base → base.Ns mainGlobals mg → LamX.TabB base mg c T → FnG l.prog w K mg base CX0 8 fa fd ["script"] (sp_law K T) := by
  have e := hfa.symm.trans (PySem.W.mg_of X G a19)
  cases e
  subst tC
  have OEU : OexC K CU := ⟨⟨nmU, qU, NU, bsU, bmU, snU, subU, abU, colU, ddU, m0U, m1U, m2U, m3U, m5U, eXU, vBU⟩, e1U, e6U, e7U, e5U⟩
  have ECU : ErrC K mg "UnknownCell" CU fU "cell" := ⟨OEU, ⟨e2U, e3U, e6U, e8U⟩, eIU, eTU, PySem.W.mg_of X G eAU, e5U, e4U, exm_is e6U e9U e7U e10U⟩
  have SCU : SupC l.prog K mg ⟨"__init__", "UnknownCell.__init__", defArgs s_UnknownCell_init, defBody s_UnknownCell_init, defScope s_UnknownCell_init, [(("__class__" : Str), cU)], kU⟩ CU cU := ⟨OEU, rfl, ⟨_, _, _, e0U⟩, ⟨_, _, _, _, _, _, eKU, vFU, vGU⟩, e11U, e12U, e13U, e14U, vTU, (PySem.W.mg_none_of X G z19)⟩
  have bEU : L2.Binds K (PySem.W.fnX "__init__" "UnknownCell.__init__" (defArgs s_UnknownCell_init) (defBody s_UnknownCell_init) (defScope s_UnknownCell_init) [(("__class__" : Str), cU)] .none .none dcU pmU none (.ref kU) ctU) ["self", "cell"] [] := .all fun us hl => match us, hl with | [_, _], _ => rfl
  have EPB : ErrP K mg "BadLine" CB := ⟨xEB, PySem.W.mg_of X G xAB, xKB, xBB, xTB, exm_is xBB xCB xTB xSB⟩
  have F1 := fun_mk (st := s_is_integer) l1 c1 k1
  have b1 := F1.binds (ps := p_is_integer) fun _ _ _ _ _ _ us hl => match us, hl with | [_], _ => rfl
  have F2 := fun_mk (st := s_is_integer_within) l2 c2 k2
  have b2 := F2.binds (ps := p_is_integer_within) fun _ _ _ _ _ _ us hl => match us, hl with | [_, _, _], _ => rfl
  have F3 := fun_mk (st := s_is_name) l3 c3 k3
  have b3 := F3.binds (ps := p_is_name) fun _ _ _ _ _ _ us hl => match us, hl with | [_], _ => rfl
  have F4 := fun_mk (st := s_own) l4 c4 k4
  have b4 := F4.binds (ps := p_own) fun _ _ _ _ _ _ us hl => match us, hl with | [_], _ => rfl
  have F5 := fun_mk (st := s_all_layouts) l5 c5 k5
  have b5 := F5.binds (ps := p_all_layouts) fun _ _ _ _ _ _ us hl => match us, hl with | [_, _], _ => rfl
  have F6 := fun_mk (st := s_check_cells) l6 c6 k6
  have b6 := F6.binds (ps := p_check_cells) fun _ _ _ _ _ _ us hl => match us, hl with | [_], _ => rfl
  have F7 := fun_mk (st := s_check_room) l7 c7 k7
  have b7 := F7.binds (ps := p_check_room) fun _ _ _ _ _ _ us hl => match us, hl with | [_], _ => rfl
  have F8 := fun_mk (st := s_are_lines) l8 c8 k8
  have b8 := F8.binds (ps := p_are_lines) fun _ _ _ _ _ _ us hl => match us, hl with | [_, _, _], _ => rfl
  have F9 := fun_mk (st := s_is_line) l9 c9 k9
  have b9 := F9.binds (ps := p_is_line) fun _ _ _ _ _ _ us hl => match us, hl with | [_, _, _], _ => rfl
  have F10 := fun_mk (st := s_filled) l10 c10 k10
  have b10 := F10.binds (ps := p_filled) fun _ _ _ _ _ _ us hl => match us, hl with | [_, _], _ => rfl
  have F11 := fun_mk (st := s_with_cell) l11 c11 k11
  have b11 := F11.binds (ps := p_with_cell) fun _ _ _ _ _ _ us hl => match us, hl with | [_, _, _, _], _ => rfl
  have F12 := fun_mk (st := s_law_feed) l12 c12 k12
  have b12 := F12.binds (ps := p_law_feed) fun _ _ _ _ _ _ us hl => match us, hl with | [_, _], _ => rfl
  have F13 := fun_mk (st := s_law_take) l13 c13 k13
  have b13 := F13.binds (ps := p_law_take) fun _ _ _ _ _ _ us hl => match us, hl with | [_, _], _ => rfl
  have F14 := fun_mk (st := s_law_pick) l14 c14 k14
  have b14 := F14.binds (ps := p_law_pick) fun _ _ _ _ _ _ us hl => match us, hl with | [_, _], _ => rfl
  have F15 := fun_mk (st := s_law_word) l15 c15 k15
  have b15 := F15.binds (ps := p_law_word) fun _ _ _ _ _ _ us hl => match us, hl with | [_], _ => rfl
  have F16 := fun_mk (st := s_law_cells) l16 c16 k16
  have b16 := F16.binds (ps := p_law_cells) fun _ _ _ _ _ _ us hl => match us, hl with | [_, _], _ => rfl
  have F17 := fun_mk (st := s_law_moves) l17 c17 k17
  have b17 := F17.binds (ps := p_law_moves) fun _ _ _ _ _ _ us hl => match us, hl with | [_], _ => rfl
  have F18 := fun_mk (st := s_law_back) l18 c18 k18
  have b18 := F18.binds (ps := p_law_back) fun _ _ _ _ _ _ us hl => match us, hl with | [_, _, _], _ => rfl
  have F19 := fun_mk (st := s_law) l19 c19 k19
  have b19 := F19.binds (ps := p_law) fun _ _ _ _ _ _ us hl => match us, hl with | [_], _ => rfl
  have F20 := fun_mk (st := s_Layout_init) l20 c20 k20
  have b20 := F20.binds (ps := p_Layout_init) fun _ _ _ _ _ _ us hl => match us, hl with | [_, _, _, _], _ => rfl
  have F21 := fun_mk (st := s_Layout_eq) l21 c21 k21
  have b21 := F21.binds (ps := p_Layout_eq) fun _ _ _ _ _ _ us hl => match us, hl with | [_, _], _ => rfl
  have F22 := fun_mk (st := s_Layout_cells) l22 c22 k22
  have b22 := F22.binds (ps := p_Layout_cells) fun _ _ _ _ _ _ us hl => match us, hl with | [_], _ => rfl
  have F23 := fun_mk (st := s_Layout_line_of) l23 c23 k23
  have b23 := F23.binds (ps := p_Layout_line_of) fun _ _ _ _ _ _ us hl => match us, hl with | [_, _], _ => rfl
  have F24 := fun_mk (st := s_Layout_moved) l24 c24 k24
  have b24 := F24.binds (ps := p_Layout_moved) fun _ _ _ _ _ _ us hl => match us, hl with | [_, _, _], _ => rfl
  refine ⟨PySem.W.fnOf "law" "law" (defArgs s_law) (defBody s_law) (defScope s_law) .none kV19 dc19 pm19 an19 cd19 cx19, cT, Tb, fun s v => .of_eq rfl, tM, tN, PySem.W.codeHd_of_K X tH, fun base _ _ TB => ?_⟩
  have EFU : ErrF l.prog w K mg base "UnknownCell" CU "cell" := ⟨fU, _, _, ECU, bEU, ok_err (N := ["self", "cell", "__class__"]) (sx := "self") (sy := "cell") SCU eLU eCU rfl (show ((defArgs s_UnknownCell_init).posonlyargs ++ (defArgs s_UnknownCell_init).args).head?.map (·.arg) = some ("self" : Str) from by decide +kernel) rfl rfl
    (show (defScope s_UnknownCell_init).names.lookup ("self" : Str) = some .local from by decide +kernel) (show (defScope s_UnknownCell_init).names.lookup ("cell" : Str) = some .local from by decide +kernel)
    (show (defScope s_UnknownCell_init).names.lookup ("super" : Str) = some .globalImplicit from by decide +kernel) (show (defScope s_UnknownCell_init).names.lookup ("__class__" : Str) = some .free from by decide +kernel)
    (by decide +kernel) (by decide +kernel) (by decide +kernel) (by decide +kernel) (fun _ => rfl) (fun _ => rfl) (fun _ => rfl) (fun _ => rfl) (show NScope ["self", "cell", "__class__"] ["self", "cell"] ["__class__"] (defScope s_UnknownCell_init) from nscope_by (by decide +kernel)) e4U⟩
  have T : Txt0 K mg := ⟨(PySem.W.mg_none_of X G z1), (PySem.W.mg_none_of X G z2), (PySem.W.mg_none_of X G z3), (PySem.W.mg_none_of X G z4), (PySem.W.mg_none_of X G z5), (PySem.W.mg_none_of X G z6), (PySem.W.mg_none_of X G z7), (PySem.W.mg_none_of X G z8), (PySem.W.mg_none_of X G z9), ⟨t1, PySem.W.mg_of X G ct1⟩, ⟨t2, PySem.W.mg_of X G ct2⟩, ⟨t3, PySem.W.mg_of X G ct3⟩, ⟨t4, PySem.W.mg_of X G ct4⟩, (PySem.W.mg_none_of X G z10), (PySem.W.mg_none_of X G z11), (PySem.W.mg_none_of X G z12), (PySem.W.mg_none_of X G z13)⟩
  have TM : TxtM mg := ⟨(PySem.W.mg_none_of X G z14), (PySem.W.mg_none_of X G z15), (PySem.W.mg_none_of X G z16), (PySem.W.mg_none_of X G z17), (PySem.W.mg_none_of X G z18)⟩
  have TL : TxtL K mg C := ⟨⟨pgC, hdC, poC, saC⟩, nC0, nC1, nC2, nC3, PySem.W.mg_of X G aC⟩
  have TE : TxtE K C := ⟨tyC, clC, hacC, hncC, tkcC, obC⟩
  have G1 : OkF l.prog w K mg base CX0 "is_integer" p_is_integer 1 sp_is_int := ⟨f1, _, PySem.W.mg_of X G a1, k1, b1, ok_is_int F1 T⟩
  have G2 : OkF l.prog w K mg base CX0 "is_integer_within" p_is_integer_within 2 sp_within := ⟨f2, _, PySem.W.mg_of X G a2, k2, b2, ok_within F2 G1⟩
  have H1 : OkF l.prog w K mg base CX0 "is_integer" p_is_integer 1 (sp_is_intG K) := ⟨f1, _, PySem.W.mg_of X G a1, k1, b1, ok_is_intG F1 T⟩
  have H2 : OkF l.prog w K mg base CX0 "is_integer_within" p_is_integer_within 2 (sp_withinG K) := ⟨f2, _, PySem.W.mg_of X G a2, k2, b2, ok_withinG F2 H1⟩
  have G3 : OkF l.prog w K mg base CX0 "is_name" p_is_name 1 sp_is_name := ⟨f3, _, PySem.W.mg_of X G a3, k3, b3, ok_is_name F3 T⟩
  have G4 : OkF l.prog w K mg base CX0 "_check_cells" p_check_cells 3 sp_check_cells := ⟨f6, _, PySem.W.mg_of X G a6, k6, b6, ok_check_cells F6 T G3 G2⟩
  have G5 : OkF l.prog w K mg base CX0 "_check_room" p_check_room 3 sp_check_room := ⟨f7, _, PySem.W.mg_of X G a7, k7, b7, ok_check_room F7 T G2⟩
  have G6 : OkF l.prog w K mg base CX0 "_filled" p_filled 1 (sp_filled K) := ⟨f10, _, PySem.W.mg_of X G a10, k10, b10, ok_filled F10 T⟩
  have G6T : OkF l.prog w K mg base CX0 "_filled" p_filled 1 (sp_filledT K) := ⟨f10, _, PySem.W.mg_of X G a10, k10, b10, ok_filledT F10 T⟩
  have G7 : OkF l.prog w K mg base CX0 "_is_line" p_is_line 2 sp_is_line := ⟨f9, _, PySem.W.mg_of X G a9, k9, b9, ok_is_line F9 T G6⟩
  have G8 : OkF l.prog w K mg base CX0 "_are_lines" p_are_lines 3 sp_are_lines := ⟨f8, _, PySem.W.mg_of X G a8, k8, b8, ok_are_lines F8 T G7⟩
  have G9 : OkF l.prog w K mg base CX0 "_with_cell" p_with_cell 2 (sp_with_cell K) := ⟨f11, _, PySem.W.mg_of X G a11, k11, b11, ok_with_cell F11 T G6T⟩
  have GI := ok_Layout_init (P := l.prog) (w := w) (base := base) F20 T TL G4 G5 G8
  have MK : Mk K C f20 := ⟨mkC, a20, i20, kcC⟩
  have FE := ok_Layout_eqG (P := l.prog) (w := w) (base := base) F21 T TL TE
  have OE : OwnC K C f21 _ p_Layout_eq := ⟨a21, i21, neC, obC, b21⟩
  have GX := ok_lineX (P := l.prog) (w := w) (base := base) F23 T TL EFU
  have ml : Meth K C "line_of" f23 := ⟨a23, i23, k23⟩
  have mm : Meth K C "moved" f24 := ⟨a24, i24, k24⟩
  have GMv := ok_movedX F24 T TL EPB ml GX b23 H2 G6 MK GI b20
  have M : LayMv l.prog w K mg base C CU CB := ⟨⟨f22, _, ⟨a22, i22, k22⟩, ok_Layout_cells F22 T TL, b22⟩, ⟨f23, _, ml, ok_Layout_line_of F23 T TL, b23⟩, ⟨f24, _, mm, GMv, b24⟩⟩
  have GA : OkF l.prog w K mg base CX0 "all_layouts" p_all_layouts 6 (sp_all_layouts C Tb) := ⟨f5, _, PySem.W.mg_of X G a5, k5, b5, ok_all_layouts F5 rfl TB T TL G4 G5 G9 MK GI b20⟩
  have GO : OkF l.prog w K mg base CX0 "own" p_own 6 (sp_own C) := ⟨f4, _, PySem.W.mg_of X G a4, k4, b4, ok_own F4 T TL G4 MK GI b20⟩
  have G10 : OkF l.prog w K mg base CX0 "_law_feed" p_law_feed 1 (sp_law_feed K) := ⟨f12, _, PySem.W.mg_of X G a12, k12, b12, ok_law_feed F12 T TM⟩
  have G11 : OkF l.prog w K mg base CX0 "_law_take" p_law_take 1 sp_law_take := ⟨f13, _, PySem.W.mg_of X G a13, k13, b13, ok_law_take F13 T⟩
  have G12 : OkF l.prog w K mg base CX0 "_law_pick" p_law_pick 2 (sp_law_pick K) := ⟨f14, _, PySem.W.mg_of X G a14, k14, b14, ok_law_pick F14 T G11⟩
  have G13 : OkF l.prog w K mg base CX0 "_law_word" p_law_word 3 sp_law_word := ⟨f15, _, PySem.W.mg_of X G a15, k15, b15, ok_law_word F15 T TM G12⟩
  have G14 : OkF l.prog w K mg base CX0 "_law_cells" p_law_cells 4 sp_law_cells := ⟨f16, _, PySem.W.mg_of X G a16, k16, b16, ok_law_cells F16 T TM G11 G12 G13⟩
  have GM : OkF l.prog w K mg base CX0 "_law_moves" p_law_moves 7 (sp_law_moves C) := ⟨f17, _, PySem.W.mg_of X G a17, k17, b17, ok_law_moves F17 T TM TL M EPB⟩
  have GB : OkF l.prog w K mg base CX0 "_law_back" p_law_back 7 (sp_law_back C) := ⟨f18, _, PySem.W.mg_of X G a18, k18, b18, ok_law_back F18 T TL M⟩
  exact ok_law F19 T TM TL TE G10 G14 G11 G12 GA GO GM GB FE OE
theorem walk {l : PySem.W.OpenLaw} {q : Program} {loose : List Str} {XP : (Str → Option Value) → Heap → Prop} {YP : World → Heap → Prop} {d : DefRec} {K : Params → PySem.W.Frag} (hn : l.most = some 63) (hdf : d.params.defaults = [])
    (hY : ∀ (w : World) (h : Heap), YP w h → (K w.params).In h)
    (F : ∀ (w : World) (mg : Str → Option Value) (fa : Addr) (h : Heap), YP w h → (K w.params).In h → h.Ns mainGlobals mg → mg d.name = some (.ref fa) →
      ∃ (fd : FuncData) (c T : Addr), (∀ (s : Shared) (u : Value), BindsTo s fd ⟨[u], []⟩ [("script", u)]) ∧ h.get? T = some { cls := .none, data := .fields #[] } ∧ (K w.params).lookup T = none ∧ PySem.W.CodeHd h c T ∧ ∀ base : Heap, (K w.params).In base → base.Ns mainGlobals mg → LamX.TabB base mg c T → FnG l.prog w (K w.params) mg base CX0 8 fa fd ["script"] (sp_law (K w.params) T)) :
    PySem.W.WalkO q loose XP YP l.row.toRowW d [] (fun f vs => PySem.call f vs) :=
  walk_tab (n := 63) (k := 8) (x := "script") (CX := fun _ => CX0) (sp := fun w T => sp_law (K w.params) T) hn (by decide) hdf ⟨rfl, by decide, by decide⟩ hY F (fun _ T H a ns hl hT hS => ⟨a, ns, rfl, hS, hl, fun p hp => by rw [List.mem_singleton.mp hp]; exact LamX.TabS.nil hT, fun _ => rfl⟩) fun _ _ _ _ _ z => z
end Vf

open PySem PySem.W PyProof.Rows
set_option maxRecDepth 100000 in
set_option maxHeartbeats 0 in
theorem PySem.Challenge.cw_sharedlines_k07_whole_layouts_lead_to_on_holds : PySem.Challenge.rw_sharedlines_k07_whole_layouts_lead_to_on.Holds := by
  w_on; o_law; km_head; (case hw => w_witness2)
  k_fill
  refine Vf.walk (l := PySem.Challenge.rw_sharedlines_k07_whole_layouts_lead_to_on) rfl rfl (fun w h Y => PySem.W.km_in_of Y) ?F
  case F =>
    intro w mg fa h Y KX G hmg
    refine' Vf.all_mk KX G hmg ?aC ?a1 ?l1 ?c1 ?k1 ?a2 ?l2 ?c2 ?k2 ?a3 ?l3 ?c3 ?k3 ?a4 ?l4 ?c4 ?k4 ?a5 ?l5 ?c5 ?k5 ?a6 ?l6 ?c6 ?k6 ?a7 ?l7 ?c7 ?k7 ?a8 ?l8 ?c8 ?k8 ?a9 ?l9 ?c9 ?k9 ?a10 ?l10 ?c10 ?k10 ?a11 ?l11 ?c11 ?k11 ?a12 ?l12 ?c12 ?k12 ?a13 ?l13 ?c13 ?k13 ?a14 ?l14 ?c14 ?k14 ?a15 ?l15 ?c15 ?k15 ?a16 ?l16 ?c16 ?k16 ?a17 ?l17 ?c17 ?k17 ?a18 ?l18 ?c18 ?k18 ?a19 ?l19 ?c19 ?k19 ?a20 ?i20 ?l20 ?c20 ?k20 ?a21 ?i21 ?l21 ?c21 ?k21 ?a22 ?i22 ?l22 ?c22 ?k22 ?a23 ?i23 ?l23 ?c23 ?k23 ?a24 ?i24 ?l24 ?c24 ?k24 ?pgC ?hdC ?poC ?saC ?mkC ?kcC ?tyC ?clC ?hacC ?hncC ?tkcC ?obC ?neC ?nC0 ?nC1 ?nC2 ?nC3 ?eAU ?eXU ?eIU ?eTU ?eLU ?eCU ?e0U ?eKU ?e1U ?e2U ?e3U ?e4U ?e5U ?e6U ?e7U ?e8U ?e9U ?e10U ?e11U ?e12U ?e13U ?e14U ?xAB ?xEB ?xKB ?xBB ?xTB ?xCB ?xSB ?tC ?tL ?tV ?tH ?tN ?tM ?ct1 ?ct2 ?ct3 ?ct4 ?z1 ?z2 ?z3 ?z4 ?z5 ?z6 ?z7 ?z8 ?z9 ?z10 ?z11 ?z12 ?z13 ?z14 ?z15 ?z16 ?z17 ?z18 ?z19 ?vBU ?vFU ?vGU ?vTU
    (case aC => k_is); (case a1 => k_is); (case l1 => k_is); (case c1 => k_is); (case k1 => k_is); (case a2 => k_is)
    (case l2 => k_is); (case c2 => k_is); (case k2 => k_is); (case a3 => k_is); (case l3 => k_is); (case c3 => k_is)
    (case k3 => k_is); (case a4 => k_is); (case l4 => k_is); (case c4 => k_is); (case k4 => k_is); (case a5 => k_is)
    (case l5 => k_is); (case c5 => k_is); (case k5 => k_is); (case a6 => k_is); (case l6 => k_is); (case c6 => k_is)
    (case k6 => k_is); (case a7 => k_is); (case l7 => k_is); (case c7 => k_is); (case k7 => k_is); (case a8 => k_is)
    (case l8 => k_is); (case c8 => k_is); (case k8 => k_is); (case a9 => k_is); (case l9 => k_is); (case c9 => k_is)
    (case k9 => k_is); (case a10 => k_is); (case l10 => k_is); (case c10 => k_is); (case k10 => k_is); (case a11 => k_is)
    (case l11 => k_is); (case c11 => k_is); (case k11 => k_is); (case a12 => k_is); (case l12 => k_is); (case c12 => k_is)
    (case k12 => k_is); (case a13 => k_is); (case l13 => k_is); (case c13 => k_is); (case k13 => k_is); (case a14 => k_is)
    (case l14 => k_is); (case c14 => k_is); (case k14 => k_is); (case a15 => k_is); (case l15 => k_is); (case c15 => k_is)
    (case k15 => k_is); (case a16 => k_is); (case l16 => k_is); (case c16 => k_is); (case k16 => k_is); (case a17 => k_is)
    (case l17 => k_is); (case c17 => k_is); (case k17 => k_is); (case a18 => k_is); (case l18 => k_is); (case c18 => k_is)
    (case k18 => k_is); (case a19 => k_is); (case l19 => k_is); (case c19 => k_is); (case k19 => k_is); (case a20 => k_is)
    (case i20 => k_is); (case l20 => k_is); (case c20 => k_is); (case k20 => k_is); (case a21 => k_is); (case i21 => k_is)
    (case l21 => k_is); (case c21 => k_is); (case k21 => k_is); (case a22 => k_is); (case i22 => k_is); (case l22 => k_is)
    (case c22 => k_is); (case k22 => k_is); (case a23 => k_is); (case i23 => k_is); (case l23 => k_is); (case c23 => k_is)
    (case k23 => k_is); (case a24 => k_is); (case i24 => k_is); (case l24 => k_is); (case c24 => k_is); (case k24 => k_is)
    (case pgC => k_is); (case hdC => k_is); (case poC => k_is); (case saC => k_is); (case mkC => k_is); (case kcC => k_is)
    (case tyC => k_is); (case clC => k_is); (case hacC => k_is); (case hncC => k_is); (case tkcC => k_is); (case obC => k_is)
    (case neC => k_is); (case nC0 => k_is); (case nC1 => k_is); (case nC2 => k_is); (case nC3 => k_is); (case eAU => k_is)
    (case eXU => k_is); (case eIU => k_is); (case eTU => k_is); (case eLU => k_is); (case eCU => k_is); (case e0U => k_is)
    (case eKU => k_is); (case e1U => k_is); (case e2U => k_is); (case e3U => k_is); (case e4U => k_is); (case e5U => k_is)
    (case e6U => k_is); (case e7U => k_is); (case e8U => k_is); (case e9U => k_is); (case e10U => k_is); (case e11U => k_is)
    (case e12U => ks_is); (case e13U => k_is); (case e14U => k_is); (case xAB => k_is); (case xEB => k_exc); (case xKB => k_is)
    (case xBB => k_is); (case xTB => k_is); (case xCB => k_is); (case xSB => k_is); (case tC => rfl); (case tL => k_is)
    (case tV => rfl); (case tH => kernel_rfl); (case tN => kernel_rfl); (case tM => exact PySem.W.km_tabs_of Y _ (by k_mem)); (case ct1 => k_is); (case ct2 => k_is)
    (case ct3 => k_is); (case ct4 => k_is); (case z1 => k_is); (case z2 => k_is); (case z3 => k_is); (case z4 => k_is)
    (case z5 => k_is); (case z6 => k_is); (case z7 => k_is); (case z8 => k_is); (case z9 => k_is); (case z10 => k_is)
    (case z11 => k_is); (case z12 => k_is); (case z13 => k_is); (case z14 => k_is); (case z15 => k_is); (case z16 => k_is)
    (case z17 => k_is); (case z18 => k_is); (case z19 => k_is); (case vBU => rfl); (case vFU => rfl); (case vGU => decide +kernel)
    (case vTU => decide +kernel)
#print axioms PySem.Challenge.cw_sharedlines_k07_whole_layouts_lead_to_on_holds
