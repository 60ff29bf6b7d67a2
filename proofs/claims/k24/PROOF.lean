import PyProof.Rows.All
import Wide.All
import OpenK.AllK
import Wide.FinOn
import HandS.ForMost
import HandS.ForExc
import HandS.Strs
import HandS.SetFor
import HandS.ClsMeth
import HandS.DictComp
import HandS.IsInst
import HandS.Style
import HandS.TupAny
import HandS.Star
import HandS.Walk
import HandS.Iter
import KE.SortData
import KE.GoesEnum
import KE.GoesMore
import HandS.OwnEq
import HandS.More
import PyProof.InstNe
import KE.KCallOwn
import HandS.Codes
import HandS.SortInts
import HandS.Zip
import KE.KeyNested
import HandS.Conv
import HandS.ListItems
import KE.KDictCopyH
import PyProof.DictValues
import HandS.Small
import HandS.DictTup
import PyProof.RowDictHeap
import HandS.Evl
import KE.KDictKeyed
import KE.KDictDisplayH
import HandS.Nested
import HandS.ExcInit
import KE.KExcSuper
import KE.KSuper
import HandS.ExcField
import HandS.Lambda
import HandS.ExcOwn
import HandS.TryMany
import HandS.RaiseMore
import HandS.Defaults
import HandS.CallSlots
import HandS.EndTab
import KE.KNestM
import HandS.Finally
import PySem.Challenge.RW_sharedlines_k24_kinds_of_nodes
set_option Elab.async false
set_option maxRecDepth 100000
set_option maxHeartbeats 4000000
namespace Vf
open PySem PySem.Spec PyProof.Rows L2 ClX

structure SMet (K : PySem.W.Frag) (C : Addr) (mc : Value) (m : Str) (p g : Addr) : Prop where
  fd : PySem.W.findCls K (.ref C) mc m = some (.get (.builtin "staticmethod.__get__") (.ref p) .none (.ref C))
  rc : ∃ rest, PySem.W.recIn K p "staticmethod" = some (.ref g :: rest)
  kp : PySem.W.keepIn K (.ref g) = true
def tSM (C : Addr) (sp : Sp) (dvs : List V) (E : XK) (ta : TE) (t : TA) : TE :=
  fun σ H Q => ta σ H fun x H1 => x = .ref C ∧ t σ H1 fun vs H2 => sp (vs ++ dvs) H2 Q E
section
variable {X : Cx} {CX : CXT} {k : Nat} {C p g : Addr} {mc : Value} {fd : FuncData} {ps : List Str} {sp : Sp} {dvs : List V} {ds : List Value} {E : XK} {o e : Expr} {es : List Expr} {m : Str} {pos apos : Pos} {ta : TE} {t : TA} {pl : Sem Bool}
theorem pe_smeth (he : PE X o ta) (r : CRead X.K C mc) (c : SMet X.K C mc m p g)
    (F : FnOk X.prog X.w X.K X.mg X.base CX k g fd ps sp) (hr : Room k X.A) (hb : Binds X.K fd ps ds) (hd : Vals dvs ds) (hx : Passes CX X E)
    (ha : PA X (e :: es) t) (hst : starEach (e :: es) X.env = (false, eval e X.env) :: starEach es X.env := by rfl)
    (hpl : (backTo pos (starEach es X.env)).any (·.1) = false := by rfl)
    (ht : eval (.Call (.Attribute o m apos) (e :: es) [] pos) X.env = (do
      let ov ← eval o X.env
      standAt apos.atName
      let (f, first) ← holding [ov] (getMethod ov m pl)
      callWith pos f first (backTo pos (starEach (e :: es) X.env)) (backToKw pos (keywordEach [] X.env))) := by rfl) :
    PE X (.Call (.Attribute o m apos) (e :: es) [] pos) (tSM C sp dvs E ta t) := by
  refine ⟨fun pins s σ H Q I h => PySem.W.methodCall_KW (pl := pl) (thn (he.run pins s σ H _ I h) ?_) ht⟩
  rintro u s1 ⟨x, H1, I1, rx, rfl, q⟩
  obtain rfl : u = Value.ref C := rx
  obtain ⟨rest, hp⟩ := c.rc
  refine PySem.W.method_cls I1.kIn r.ga (PySem.W.cls_bind I1.kIn r.rd c.fd (wpAny_call
    (PySem.W.sm_get (s := { s1 with toks := s1.toks + 1 }) I1.kIn hp (PySem.W.handed_on rfl ?_))))
  have I2 : Inv X pins σ H1 { s1 with toks := s1.toks + 1 } := I1.tok _
  refine PySem.W.callWith_K (h₀ := X.base) I.ok.mod.kin c.kp (thn (ha.run pos pins _ σ H1 _ I2 q) ?_) hst hpl
  rintro us s2 ⟨vs, H2, I3, rv, q2⟩
  exact ⟨I3.kIn, run_fn F hr hb hd hx I3 rv q2⟩
end
end Vf

set_option maxRecDepth 100000
set_option maxHeartbeats 4000000
namespace Vf
open PySem PySem.Spec PyProof.Rows L2
/-- a set just made -/
abbrev emptySet (w : World) : Obj := { cls := .type "set", dict := none, data := .set #[] 0 (.fresh 0 0 (!w.params.followText "set-order")) }
section
variable {P : Program} {w : World} {A : Around} {E : Value → Shared → Prop} {s : Shared}
theorem set_init_list {l S : Addr} {items : Array Value} {h0 : Heap} (ns : List Int) (hh : A.handled = none) (h0S : S = s.heap.objs.size) (hl : s.heap.IsList l items)
    (hit : IntsAre items.toList ns) (hb : ns.length + 1 < scanBound) (e0 : h0 = s.heap.push (emptySet w)) {R : Result → Shared → Prop}
    (h : ∀ h' tk c, SetR w h' S (fun j => decide (j ∈ ns)) c → c ≤ ns.length → (∀ b o, s.heap.get? b = some o → h'.get? b = some o) →
      R (.ok (.ret .none)) { s with heap := h', toks := tk }) :
    codeAny (model P w) A (.call (.builtin "set.__init__") ⟨[.ref S, .ref l], []⟩) R { s with heap := h0 } := by
  subst h0S e0
  have hS : (s.heap.push (emptySet w)).get? s.heap.objs.size = some (emptySet w) := Heap.get?_push_size _ rfl
  have hT : Shared.TypeIs { s with heap := s.heap.push (emptySet w) } (.ref s.heap.objs.size) "set" := ⟨_, hS, rfl⟩
  refine codeAny_call_builtin F.called_set.init.plain F.entry_set_init (check_set_init_1 hT ?_)
  have hisz : items.size = ns.length := by
    have q := IntsAre.length hit
    rwa [Array.length_toList] at q
  obtain ⟨ol, hol, hcl, nl, hdl⟩ := hl
  obtain ⟨ocls, odict, odata, oslots⟩ := ol
  dsimp only at hcl hdl
  subst hcl hdl
  have hol' : (s.heap.push (emptySet w)).get? l = some { cls := .type "list", dict := odict, data := .seq items nl, slots := oslots } :=
    Heap.get?_push_of_some _ hol
  have hsls := F.sub_list_set
  have hslf := F.sub_list_frozenset
  have hne : (Value.type "list" == Value.type "dict") = false := by decide
  have hl1 : (s.heap.push (emptySet w)).IsList l items := ⟨_, hol', rfl, nl, rfl⟩
  unfold Builtin.«set.__init__» noKeywords Builtin.Frozenset.updateFrom
  generalize hPI : pyIter = PI
  wp_walk
  subst hPI
  refine wpAny_pyIter_list hl1 (wpAny_bind (wpAny_runValue ?_))
  have hlS : l < s.heap.objs.size := Heap.lt_size hol
  have hh3 : A.in1.in1.handled = none := hh
  have hsz : (s.heap.push (emptySet w)).objs.size = s.heap.objs.size + 1 := Heap.size_push ..
  have hlt : ∀ b : Addr, b < s.heap.objs.size → b ∉ [s.heap.objs.size, s.heap.objs.size + 1] := fun b hb hm => by
    rcases List.mem_cons.mp hm with e | e
    · exact Nat.lt_irrefl _ (e ▸ hb)
    · exact Nat.lt_irrefl _ (Nat.lt_succ_of_lt (List.mem_singleton.mp e ▸ hb))
  have hneI : l ≠ (s.heap.push (emptySet w)).objs.size := by rw [hsz]; exact Nat.ne_of_lt (Nat.lt_succ_of_lt hlS)
  have hSf : s.heap.objs.size ∉ [(s.heap.push (emptySet w)).objs.size, l] := by
    rw [hsz]
    simp only [List.mem_cons, List.not_mem_nil, or_false, not_or]
    exact ⟨Nat.ne_of_lt (Nat.lt_succ_self _), Nat.ne_of_gt hlS⟩
  have hcur : (s.heap.push (emptySet w)).IsList l items := hl1
  have hval : ∀ (i : Nat) (v : Value), items[i]? = some v → ∃ k t, ns[i]? = some k ∧ v = .int k t := fun i v hv => by
    have hi : i < items.size := (Array.getElem?_eq_some_iff.mp hv).1
    obtain ⟨t, ht⟩ := IntsAre.int_at hit i v (by rw [Array.getElem?_toList]; exact hv)
    have hi2 : i < ns.length := by omega
    refine ⟨ns[i], t, List.getElem?_eq_getElem hi2, ?_⟩
    rw [ht, List.getD_eq_getElem?_getD, List.getElem?_eq_getElem hi2]
    rfl
  refine set_update_ints ((Walks.list hh3 _ l hneI items).toS) s.heap.objs.size hSf ns hisz hb hval (items.size - 0) 0 _ (by omega) (Nat.zero_le _)
    ?hSt ?hS0 ?hR
  case hSt => exact ⟨⟨_, Heap.get?_push_size _ rfl, rfl, rfl⟩, (hl1.push _)⟩
  case hS0 => exact ⟨0, Nat.le_refl _, setR_new_at (Heap.get?_push_of_some _ hS)⟩
  case hR =>
    rintro ⟨h', g2, d', tk', os'⟩ c hm hc hR
    obtain rfl : g2 = s.gens := hm.gens
    obtain rfl : d' = s.drawn := hm.drawn
    obtain rfl : os' = s.os := hm.os
    refine wpAny_pure (wpAny_pure (h h' tk' c hR (by omega) fun b o e => ?_))
    refine hm.heap b o ?_ (Heap.get?_push_of_some _ (Heap.get?_push_of_some _ e))
    rw [hsz]
    exact hlt b (Heap.lt_size e)
theorem call_set_listI {l : Addr} {items : Array Value} (ns : List Int) {Q : Value → Shared → Prop} (hh : A.handled = none) (hl : s.heap.IsList l items)
    (hit : IntsAre items.toList ns) (hb : ns.length + 1 < scanBound)
    (h : ∀ h' tk c, SetR w h' s.heap.objs.size (fun j => decide (j ∈ ns)) c → c ≤ ns.length → (∀ b o, s.heap.get? b = some o → h'.get? b = some o) →
      Q (.ref s.heap.objs.size) { s with heap := h', toks := tk }) :
    wpAny (model P w) A (call (.type "set") [.ref l]) Q E s := by
  have hT : Shared.TypeIs { s with heap := s.heap.push (emptySet w) } (.ref s.heap.objs.size) "set" := ⟨_, Heap.get?_push_size _ rfl, rfl⟩
  obtain ⟨c, tl, hmro⟩ := F.called_set.mro; have hmade := F.called_set.made; have hsub := F.called_set.sub
  have h1 := F.called_set.notType; have h2 := F.called_set.canCreate; have hct := F.typeCall_set_1 (.ref l)
  have hli := F.called_set.init.lookup; have hbi := F.called_set.init.bind (.ref s.heap.objs.size)
  refine wpAny_call (codeAny_of_tree (show wpAny _ _ (callAny (.type "set") _) _ _ _ from
    wpAny_pure ⟨Code.quiet_builtin _ (by decide +kernel), codeAny_builtin F.entry_type_call ?_⟩))
  rw [Around.under_plain (weight_type_call_type "set" [.ref l] []) rfl]
  repeat (any_goals (first | assumption | wp_step))
  refine codeAny_mono (code_set_led1 (.ref l) (E := E) (Q₁ := fun obj s₁ => obj = .ref s.heap.objs.size ∧ s₁ = { s with heap := s.heap.push (emptySet w) }) ⟨rfl, rfl⟩) ?_
  rintro (e | (_ | _ | _ | obj)) s₁ hr
  · exact hr
  · exact hr.elim
  · exact hr.elim
  · exact hr.elim
  obtain ⟨rfl, rfl⟩ := hr
  repeat (any_goals (first | assumption | wp_step))
  refine codeAny_mono (set_init_list (s := s) (R := wants (fun r s₂ => r = .none ∧ Q (.ref s.heap.objs.size) s₂) E) ns (by exact hh) rfl hl hit hb rfl
    fun h' tk c hR hc hk => ⟨rfl, h h' tk c hR hc hk⟩) ?_
  rintro (e | (_ | _ | _ | r)) s₂ hr
  · exact hr
  · exact hr.elim
  · exact hr.elim
  · exact hr.elim
  obtain ⟨rfl, hq⟩ := hr
  repeat (any_goals (first | assumption | wp_step))
end
theorem nodup_len {α : Type} [DecidableEq α] : ∀ {l m : List α}, l.Nodup → (∀ x ∈ l, x ∈ m) → l.length ≤ m.length
  | [], _, _, _ => Nat.zero_le _
  | a :: l, m, nd, h => by
    have hm := h a List.mem_cons_self
    have e := List.length_erase_of_mem hm
    have hpos := List.length_pos_of_mem hm
    have ih := nodup_len (l := l) (m := m.erase a) (List.nodup_cons.mp nd).2 fun x hx => by
      refine (List.mem_erase_of_ne fun z => ?_).mpr (h x (List.mem_cons_of_mem _ hx))
      exact (List.nodup_cons.mp nd).1 (z ▸ hx)
    rw [List.length_cons]
    omega
/-- set(xs): the set of the ints of a list, new -/
def rSetI (K : PySem.W.Frag) (w : World) : List V → Hp → VK → Prop := fun vs H Q => ∃ (a : Addr) (ns : List Int), vs = [.ref a] ∧ SqL K H a (ns.map V.int) ∧ ns.length + 1 < scanBound ∧
  ∀ (p : Addr) (c : Nat), H p = none → (∀ l : List Int, (∀ k ∈ ns, k ∈ l) → c ≤ l.length) → Q (.ref p) (upd H p (SetO w p (fun j => decide (j ∈ ns)) c))
theorem cr_setI {X : Cx} (hc : X.calm = true) : CallR X (.type "set") (rSetI X.K X.w) := by
  intro pins s σ H vs us Q I r h
  obtain ⟨a, ns, rfl, hS, hb, q⟩ := h
  obtain ⟨its, rv, pl, hz⟩ := I.list hS
  rw [Vals.ref1 r]
  refine call_set_listI ns (I.ok.hd hc) pl.isList (by simpa using intsAre_of rv) hb fun h' tk c R hcn k => ?_
  refine ⟨.ref _, _, I.laid (t' := tk) k (Nat.le_refl _) (setO_new R), rfl, q _ c (I.hok.fresh (Nat.le_refl _)) fun l hl => ?_⟩
  obtain ⟨o, es, ep, t, _, _, _, _, nd, hm, _, _, hn, _⟩ := R
  rw [← hn, ← Array.length_toList, ← List.length_map (f := keyOf)]
  exact nodup_len nd fun x hx => hl x (of_decide_eq_true ((hm x).mpr hx))
end Vf

set_option maxRecDepth 100000
set_option maxHeartbeats 4000000
namespace Vf
open PySem PySem.Spec PyProof.Rows L2
section
variable {J : It} {n : Nat} {G : Hp → Prop} {Y : Nat → Hp → V → Hp → Prop}
theorem same_new {H : Hp} {p : Addr} {o : HO} (h : H p = none) : Same H (upd H p o) := fun b u e => by rw [upd_ne (ne_of_none e h)]; exact e
theorem same_upd {H H1 : Hp} {p : Addr} {o : HO} (s : Same H H1) (h : H p = none) : Same H (upd H1 p o) := fun b u e => by rw [upd_ne (ne_of_none e h)]; exact s b u e
theorem same_both {H H1 : Hp} {p : Addr} {o : HO} (s : Same H H1) : Same (upd H p o) (upd H1 p o) := fun b u e => by
  by_cases hb : b = p
  · subst hb
    rw [upd_same] at e ⊢
    exact e
  · rw [upd_ne hb] at e ⊢
    exact s b u e
theorem take_fm {α β : Type} {l : List α} {f : α → Option β} {i : Nat} {a : α} (h : l[i]? = some a) : (l.take (i + 1)).filterMap f = (l.take i).filterMap f ++ (f a).toList := by
  rw [List.take_add_one, h, List.filterMap_append]
  cases e : f a <;> simp [e]
/-- [.. for .. in .. if ..] -/
theorem lc_fm {α : Type} (l : List α) (w : Walk J l.length G Y) {g : TG} {tt : TT} {te : TE} {vs : List Nat} {σ : L2.St} {H1 : Hp} {D : Addr} {Qd : Hp → Prop} (hD : H1 D = none) (f : α → Option V) (hn : l.length < 1000000) (hG : ∀ H, Same H1 H → G H)
    (hs : ∀ i a x H H', l[i]? = some a → Same H1 H → Y i H x H' → ∀ R : Option V → Hp → Prop, (∀ H4, Same H H4 → R (f a) H4) →
      g x (wipe σ vs) H' fun σ2 H2 => wipe σ2 vs = wipe σ vs ∧ tt σ2 H2 fun b H3 => if b = true then te σ2 H3 (fun y => R (some y)) else R none H3)
    (hd : ∀ H, Same H1 H → H D = some (.lst (l.filterMap f)) → Qd H) :
    ∃ W : Nat → Nat → Hp → Prop, (∃ m, W 0 m (upd H1 D (.lst []))) ∧ ∀ i m H, W i m H →
      (J.stop i H ∧ Qd H) ∨ (J.go i H ∧ ∃ Nx : Hp → Prop, (∀ H', Nx H' → ∃ m', m' < m ∧ W (i + 1) m' H') ∧ ∀ x H', J.yld i H x H' → g x (wipe σ vs) H' fun σ2 H2 => wipe σ2 vs = wipe σ vs ∧ tt σ2 H2 fun b H3 =>
        if b = true then te σ2 H3 fun y H4 => ∃ acc, H4 D = some (.lst acc) ∧ acc.length < sizeLine ∧ Nx (upd H4 D (.lst (acc ++ [y]))) else Nx H3) := by
  refine ⟨fun i m H => m = l.length - i ∧ i ≤ l.length ∧ Same H1 H ∧ H D = some (.lst ((l.take i).filterMap f)), ⟨l.length, by simp, Nat.zero_le _, same_new hD, by rw [upd_same]; simp⟩, ?_⟩
  rintro i m H ⟨rfl, hi, s, hH⟩
  by_cases hlt : i < l.length
  · have ha : l[i]? = some l[i] := List.getElem?_eq_getElem hlt
    have hlen : ((l.take i).filterMap f).length < sizeLine := by
      have h1 := List.length_filterMap_le f (l.take i)
      rw [List.length_take] at h1
      rw [sizeLine_eq]
      omega
    refine .inr ⟨w.goes i H hlt (hG H s), fun H' => Same H1 H' ∧ H' D = some (.lst ((l.take (i + 1)).filterMap f)), fun H' p => ⟨l.length - (i + 1), by omega, rfl, hlt, p⟩, fun x H' y => ?_⟩
    refine hs i _ x H H' ha s (w.yields i H x H' hlt (hG H s) y) (fun o H4 => match o with
      | some y => ∃ acc, H4 D = some (.lst acc) ∧ acc.length < sizeLine ∧ Same H1 (upd H4 D (.lst (acc ++ [y]))) ∧ (upd H4 D (.lst (acc ++ [y]))) D = some (.lst ((l.take (i + 1)).filterMap f))
      | none => Same H1 H4 ∧ H4 D = some (.lst ((l.take (i + 1)).filterMap f))) ?_
    intro H4 s4
    have e4 := s4 D _ hH
    rw [take_fm ha]
    cases e : f l[i] with
    | some y => exact ⟨_, e4, hlen, same_upd (s.trans s4) hD, by rw [upd_same]; rfl⟩
    | none => exact ⟨s.trans s4, by rw [e4]; simp⟩
  · have e : i = l.length := by omega
    subst e
    rw [List.take_length] at hH
    exact .inl ⟨w.stops H (hG H s), hd H s hH⟩
/-- [.. for .. in ..], no test -/
theorem lc_mp {α : Type} (l : List α) (w : Walk J l.length G Y) {g : TG} {te : TE} {vs : List Nat} {σ : L2.St} {H1 : Hp} {D : Addr} {Qd : Hp → Prop} (hD : H1 D = none) (f : α → V) (hn : l.length < 1000000) (hG : ∀ H, Same H1 H → G H)
    (hs : ∀ i a x H H', l[i]? = some a → Same H1 H → Y i H x H' → ∀ R : V → Hp → Prop, (∀ H4, Same H H4 → R (f a) H4) →
      g x (wipe σ vs) H' fun σ2 H2 => wipe σ2 vs = wipe σ vs ∧ te σ2 H2 R)
    (hd : ∀ H, Same H1 H → H D = some (.lst (l.map f)) → Qd H) :
    ∃ W : Nat → Nat → Hp → Prop, (∃ m, W 0 m (upd H1 D (.lst []))) ∧ ∀ i m H, W i m H →
      (J.stop i H ∧ Qd H) ∨ (J.go i H ∧ ∃ Nx : Hp → Prop, (∀ H', Nx H' → ∃ m', m' < m ∧ W (i + 1) m' H') ∧ ∀ x H', J.yld i H x H' → g x (wipe σ vs) H' fun σ2 H2 => wipe σ2 vs = wipe σ vs ∧ tYes σ2 H2 fun b H3 =>
        if b = true then te σ2 H3 fun y H4 => ∃ acc, H4 D = some (.lst acc) ∧ acc.length < sizeLine ∧ Nx (upd H4 D (.lst (acc ++ [y]))) else Nx H3) := by
  refine ⟨fun i m H => m = l.length - i ∧ i ≤ l.length ∧ Same H1 H ∧ H D = some (.lst ((l.take i).map f)), ⟨l.length, by simp, Nat.zero_le _, same_new hD, by rw [upd_same]; simp⟩, ?_⟩
  rintro i m H ⟨rfl, hi, s, hH⟩
  by_cases hlt : i < l.length
  · have ha : l[i]? = some l[i] := List.getElem?_eq_getElem hlt
    have hlen : ((l.take i).map f).length < sizeLine := by
      rw [List.length_map, List.length_take, sizeLine_eq]
      omega
    refine .inr ⟨w.goes i H hlt (hG H s), fun H' => Same H1 H' ∧ H' D = some (.lst ((l.take (i + 1)).map f)), fun H' p => ⟨l.length - (i + 1), by omega, rfl, hlt, p⟩, fun x H' y => ?_⟩
    have q := hs i _ x H H' ha s (w.yields i H x H' hlt (hG H s) y) (fun y H4 => ∃ acc, H4 D = some (.lst acc) ∧ acc.length < sizeLine ∧ Same H1 (upd H4 D (.lst (acc ++ [y]))) ∧ (upd H4 D (.lst (acc ++ [y]))) D = some (.lst ((l.take (i + 1)).map f))) ?_
    · exact q
    intro H4 s4
    have e4 := s4 D _ hH
    refine ⟨_, e4, hlen, same_upd (s.trans s4) hD, ?_⟩
    rw [upd_same, List.take_add_one, ha, List.map_append]
    rfl
  · have e : i = l.length := by omega
    subst e
    rw [List.take_length] at hH
    exact .inl ⟨w.stops H (hG H s), hd H s hH⟩
/-- {.. for .. in ..}: the state by an invariant -/
theorem dc_it (w : Walk J n G Y) {g : TG} {tt : TT} {tk tv : TE} {vs : List Nat} {σ : L2.St} {H1 : Hp} {D : Addr} {Qd : Hp → Prop} (Pv : Nat → Hp → Prop) (h0 : Pv 0 (upd H1 D (.dK []))) (hG : ∀ i H, i ≤ n → Pv i H → G H)
    (hs : ∀ i x H H', i < n → Pv i H → Y i H x H' → g x (wipe σ vs) H' fun σ2 H2 => wipe σ2 vs = wipe σ vs ∧ tt σ2 H2 fun b H3 =>
      if b = true then tk σ2 H3 fun y H4 => tv σ2 H4 fun z H5 => ∃ kvs k, y = kV k ∧ H5 D = some (.dK kvs) ∧ kvs.length < sizeLine ∧ Pv (i + 1) (upd H5 D (.dK (putK kvs k z))) else Pv (i + 1) H3) (hd : ∀ H, Pv n H → Qd H) :
    ∃ W : Nat → Nat → Hp → Prop, (∃ m, W 0 m (upd H1 D (.dK []))) ∧ ∀ i m H, W i m H →
      (J.stop i H ∧ Qd H) ∨ (J.go i H ∧ ∃ Nx : Hp → Prop, (∀ H', Nx H' → ∃ m', m' < m ∧ W (i + 1) m' H') ∧ ∀ x H', J.yld i H x H' → g x (wipe σ vs) H' fun σ2 H2 => wipe σ2 vs = wipe σ vs ∧ tt σ2 H2 fun b H3 =>
        if b = true then tk σ2 H3 fun y H4 => tv σ2 H4 fun z H5 => ∃ kvs k, y = kV k ∧ H5 D = some (.dK kvs) ∧ kvs.length < sizeLine ∧ Nx (upd H5 D (.dK (putK kvs k z))) else Nx H3) := by
  refine ⟨fun i m H => m = n - i ∧ i ≤ n ∧ Pv i H, ⟨n, by simp, Nat.zero_le _, h0⟩, ?_⟩
  rintro i m H ⟨rfl, hi, p⟩
  by_cases hlt : i < n
  · exact .inr ⟨w.goes i H hlt (hG i H hi p), Pv (i + 1), fun H' p' => ⟨n - (i + 1), by omega, rfl, hlt, p'⟩, fun x H' y => hs i x H H' hlt p (w.yields i H x H' hlt (hG i H hi p) y)⟩
  · have e : i = n := by omega
    subst e
    exact .inl ⟨w.stops H (hG i H hi p), hd H p⟩
end
end Vf

set_option maxRecDepth 100000
set_option maxHeartbeats 4000000
namespace Vf
open PySem PySem.Spec PyProof.Rows L2

/-- the text of a number -/
def natS (k : Nat) : Str := Str.ofString (toString (k : Int))
def sRead : Str := "read"
def sWrite : Str := "write"
def sArrow : Str := "->"
def sEnd : Str := "end"
def sSp : Str := " "
def sNl : Str := "\n"
def isNameT (z : Str) : Bool := decide (1 ≤ z.length) && decide (z.length ≤ 8) && z.cps.toList.all fun c => decide (97 ≤ c) && decide (c ≤ 122)
/-- the number of a word, one of many -/
def numOf (many : Nat) (z : Str) : Option Nat := (List.range many).find? fun k => decide (natS k = z)
/-- a node: what it does, its cell, its targets (none: the end) -/
structure Nd where
  word : Str
  cell : Str
  tg : List (Option Nat)
  deriving DecidableEq
def rises : List Nat → Bool
  | [] => true
  | [_] => true
  | a :: b :: r => decide (a < b) && rises (b :: r)
def targetsT (many : Nat) (ws : List Str) : Option (List (Option Nat)) :=
  match ws with
  | [] => some [none]
  | w :: rest =>
    if w ≠ sArrow ∨ rest = [] then none else
    let e := decide (rest.getLast? = some sEnd)
    let named := if e then rest.dropLast else rest
    if named.all fun z => (numOf many z).isSome then
      if rises (named.filterMap (numOf many)) then some ((named.filterMap (numOf many)).map some ++ if e then [none] else []) else none
    else none
def tgOf (many : Nat) (named : List Str) (e : Bool) : Option (List (Option Nat)) :=
  if named.all fun z => (numOf many z).isSome then
    if rises (named.filterMap (numOf many)) then some ((named.filterMap (numOf many)).map some ++ if e then [none] else []) else none
  else none
theorem targetsT_bad {many : Nat} {w : Str} {rest : List Str} (h : w ≠ sArrow) : targetsT many (w :: rest) = none := if_pos (.inl h)
theorem targetsT_bare {many : Nat} : targetsT many [sArrow] = none := by
  show (if sArrow ≠ sArrow ∨ ([] : List Str) = [] then none else tgOf many [] false) = none
  rw [if_pos (.inr rfl)]
theorem targetsT_step {many : Nat} {rs : List Str} {z : Str} : targetsT many (sArrow :: (rs ++ [z])) = tgOf many (if decide (z = sEnd) = true then rs else rs ++ [z]) (decide (z = sEnd)) := by
  have e : targetsT many (sArrow :: (rs ++ [z])) = tgOf many (if decide ((rs ++ [z]).getLast? = some sEnd) = true then (rs ++ [z]).dropLast else rs ++ [z]) (decide ((rs ++ [z]).getLast? = some sEnd)) :=
    if_neg (by simp)
  rw [e, List.getLast?_append, List.dropLast_concat]
  simp only [List.getLast?_singleton, Option.some_or, Option.some.injEq]
def nodeT (many : Nat) (row : Str) : Option Nd :=
  match Txt.split row sSp with
  | w :: c :: rest => if (w = sRead ∨ w = sWrite) ∧ isNameT c = true then (targetsT many rest).map fun t => ⟨w, c, t⟩ else none
  | _ => none
/-- the nodes of the first rows, as far as they are right -/
def nodesT (many : Nat) : List Str → Option (List Nd)
  | [] => some []
  | r :: rs => (nodeT many r).bind fun n => (nodesT many rs).map (n :: ·)
def parseT (z : Str) : Option (List Nd) :=
  let rows := Txt.split z sNl
  if rows.length ≤ 8 then nodesT rows.length rows else none

theorem tl_natS (k : Nat) : TL.tl (natS k) = TL.numL k := TL.tl_num k
theorem natS_inj {a b : Nat} (h : natS a = natS b) : a = b := by
  have e : TL.tl (natS a) = TL.tl (natS b) := by rw [h]
  rw [tl_natS, tl_natS] at e
  exact TL.numL_inj e
theorem numOf_some {many k : Nat} {z : Str} : numOf many z = some k ↔ k < many ∧ natS k = z := by
  unfold numOf
  constructor
  · intro h
    have h1 := List.find?_some (p := fun k => decide (natS k = z)) h
    have h2 := List.mem_of_find?_eq_some h
    exact ⟨List.mem_range.mp h2, of_decide_eq_true h1⟩
  · rintro ⟨h1, h2⟩
    cases e : (List.range many).find? fun k => decide (natS k = z) with
    | none =>
      have := List.find?_eq_none.mp e k (List.mem_range.mpr h1)
      exact absurd (decide_eq_true h2) this
    | some j =>
      have h3 : natS j = z := of_decide_eq_true (List.find?_some (p := fun k => decide (natS k = z)) e)
      rw [natS_inj (h3.trans h2.symm)]
theorem numOf_nat {many k : Nat} (h : k < many) : numOf many (natS k) = some k := numOf_some.mpr ⟨h, rfl⟩

def tgS : Option Nat → Str
  | none => sEnd
  | some k => natS k
def rowW (full : Bool) (n : Nd) : List Str := if full = false ∧ n.tg = [none] then [n.word, n.cell] else n.word :: n.cell :: sArrow :: n.tg.map tgS
def rowS (full : Bool) (n : Nd) : Str := Txt.join sSp (rowW full n)
structure GoodTg (many : Nat) (tg : List (Option Nat)) : Prop where
  ne : tg ≠ []
  sh : ∃ (ks : List Nat) (e : Bool), tg = ks.map some ++ (if e then [none] else []) ∧ rises ks = true ∧ ∀ k ∈ ks, k < many
structure GoodNd (many : Nat) (n : Nd) : Prop where
  word : n.word = sRead ∨ n.word = sWrite
  cell : isNameT n.cell = true
  tg : GoodTg many n.tg
inductive Rows : List Str → List Nd → Prop
  | nil : Rows [] []
  | cons {n : Nd} {rs : List Str} {ns : List Nd} (f : Bool) : Rows rs ns → Rows (rowS f n :: rs) (n :: ns)

theorem tl_sp : TL.tl sSp = [32] := by decide +kernel
theorem tl_nl : TL.tl sNl = [10] := by decide +kernel
theorem tl_end : TL.tl sEnd = [101, 110, 100] := by decide +kernel
theorem natS_ne_end (k : Nat) : natS k ≠ sEnd := fun h => by
  have e : TL.tl (natS k) = TL.tl sEnd := by rw [h]
  rw [tl_natS, tl_end] at e
  exact TL.numL_free (n := k) (s := 101) (by omega) (by rw [e]; decide)
theorem filterMap_nat {many : Nat} : ∀ {ks : List Nat}, (∀ k ∈ ks, k < many) → (ks.map natS).filterMap (numOf many) = ks
  | [], _ => rfl
  | k :: ks, h => by
    rw [List.map_cons, List.filterMap_cons, numOf_nat (h k List.mem_cons_self), filterMap_nat fun z hz => h z (List.mem_cons_of_mem _ hz)]
theorem all_nat {many : Nat} {ks : List Nat} (h : ∀ k ∈ ks, k < many) : ((ks.map natS).all fun z => (numOf many z).isSome) = true := by
  rw [List.all_eq_true]
  intro z hz
  obtain ⟨k, hk, rfl⟩ := List.mem_map.mp hz
  rw [numOf_nat (h k hk)]
  rfl
theorem targetsT_good {many : Nat} {tg : List (Option Nat)} (g : GoodTg many tg) : targetsT many (sArrow :: tg.map tgS) = some tg := by
  obtain ⟨ne, ks, e, rfl, hr, hk⟩ := g
  have hne : (ks.map some ++ (if e then [none] else [])).map tgS ≠ [] := fun z => ne (List.map_eq_nil_iff.mp z)
  have em : (ks.map some ++ (if e then [none] else [])).map tgS = ks.map natS ++ (if e then [sEnd] else []) := by
    rw [List.map_append, List.map_map]
    cases e <;> rfl
  unfold targetsT
  rw [em] at hne ⊢
  dsimp only
  rw [if_neg (by simp only [ne_eq, not_true, false_or]; exact hne)]
  cases e with
  | true =>
    have l1 : decide ((ks.map natS ++ (if true = true then [sEnd] else [])).getLast? = some sEnd) = true := by simp
    have l2 : (ks.map natS ++ (if true = true then [sEnd] else [])).dropLast = ks.map natS := by simp
    rw [l1, if_pos rfl, l2, if_pos (all_nat hk), filterMap_nat hk, if_pos hr]
  | false =>
    have l0 : ks.map natS ++ (if false = true then [sEnd] else []) = ks.map natS := by simp
    rw [l0]
    have l1 : decide ((ks.map natS).getLast? = some sEnd) = false := by
      refine decide_eq_false fun z => ?_
      obtain ⟨k, _, h⟩ := List.mem_map.mp (List.mem_of_getLast? z)
      exact natS_ne_end k h
    rw [l1, if_neg Bool.false_ne_true, if_pos (all_nat hk), filterMap_nat hk, if_pos hr]

/-- words of a row have no blank and no line feed in them -/
def Solid (z : Str) : Prop := ∀ c ∈ TL.tl z, c ≠ 32 ∧ c ≠ 10
theorem solid_of {z : Str} {l : List Nat} (e : TL.tl z = l) (h : (l.all fun c => decide (c ≠ 32) && decide (c ≠ 10)) = true) : Solid z := fun c hc => by
  rw [e] at hc
  have q := List.all_eq_true.mp h c hc
  simpa using q
theorem solid_read : Solid sRead := solid_of (l := [114, 101, 97, 100]) (by decide +kernel) (by decide)
theorem solid_write : Solid sWrite := solid_of (l := [119, 114, 105, 116, 101]) (by decide +kernel) (by decide)
theorem solid_arrow : Solid sArrow := solid_of (l := [45, 62]) (by decide +kernel) (by decide)
theorem solid_end : Solid sEnd := solid_of tl_end (by decide)
theorem solid_nat (k : Nat) : Solid (natS k) := fun c hc => by
  rw [tl_natS] at hc
  exact ⟨fun e => TL.numL_free (n := k) (s := 32) (by omega) (e ▸ hc), fun e => TL.numL_free (n := k) (s := 10) (by omega) (e ▸ hc)⟩
theorem name_signs {z : Str} (h : isNameT z = true) : ∀ c ∈ TL.tl z, 97 ≤ c ∧ c ≤ 122 := fun c hc => by
  unfold isNameT at h
  simp only [Bool.and_eq_true, List.all_eq_true, decide_eq_true_eq] at h
  exact h.2 c hc
theorem name_len {z : Str} (h : isNameT z = true) : 1 ≤ z.length ∧ z.length ≤ 8 := by
  unfold isNameT at h
  simp only [Bool.and_eq_true, decide_eq_true_eq] at h
  exact h.1
theorem solid_name {z : Str} (h : isNameT z = true) : Solid z := fun c hc => by
  have := name_signs h c hc
  omega
theorem solid_tg (t : Option Nat) : Solid (tgS t) := by
  cases t with
  | none => exact solid_end
  | some k => exact solid_nat k
theorem solid_row {many : Nat} {n : Nd} (g : GoodNd many n) (f : Bool) : ∀ z ∈ rowW f n, Solid z := fun z hz => by
  have hw : Solid n.word := by rcases g.word with e | e <;> rw [e] <;> first | exact solid_read | exact solid_write
  unfold rowW at hz
  split at hz
  · rcases List.mem_cons.mp hz with rfl | hz
    · exact hw
    · rw [List.mem_singleton.mp hz]
      exact solid_name g.cell
  · rcases List.mem_cons.mp hz with rfl | hz
    · exact hw
    rcases List.mem_cons.mp hz with rfl | hz
    · exact solid_name g.cell
    rcases List.mem_cons.mp hz with rfl | hz
    · exact solid_arrow
    · obtain ⟨t, _, rfl⟩ := List.mem_map.mp hz
      exact solid_tg t
theorem rowW_ne (f : Bool) (n : Nd) : rowW f n ≠ [] := by
  unfold rowW
  split <;> simp
theorem split_row {many : Nat} {n : Nd} (g : GoodNd many n) (f : Bool) : Txt.split (rowS f n) sSp = rowW f n :=
  TL.split_join (y := sSp) (s := 32) (S := []) tl_sp (by decide +kernel) (rowW_ne f n) fun z hz h => (solid_row g f z hz 32 h).1 rfl
theorem nodeT_good {many : Nat} {n : Nd} (g : GoodNd many n) (f : Bool) : nodeT many (rowS f n) = some n := by
  unfold nodeT
  rw [split_row g f]
  by_cases hf : f = false ∧ n.tg = [none]
  · have e : rowW f n = [n.word, n.cell] := if_pos hf
    rw [e]
    show (if (n.word = sRead ∨ n.word = sWrite) ∧ isNameT n.cell = true then (targetsT many []).map _ else none) = _
    rw [if_pos ⟨g.word, g.cell⟩]
    obtain ⟨w, c, t⟩ := n
    obtain rfl : t = [none] := hf.2
    rfl
  · have e : rowW f n = n.word :: n.cell :: sArrow :: n.tg.map tgS := if_neg hf
    rw [e]
    show (if (n.word = sRead ∨ n.word = sWrite) ∧ isNameT n.cell = true then (targetsT many (sArrow :: n.tg.map tgS)).map _ else none) = _
    rw [if_pos ⟨g.word, g.cell⟩, targetsT_good g.tg]
    rfl
theorem nodesT_good {many : Nat} {rs : List Str} {ns : List Nd} (h : Rows rs ns) (g : ∀ n ∈ ns, GoodNd many n) : nodesT many rs = some ns := by
  induction h with
  | nil => rfl
  | @cons n rs ns f _ ih =>
    unfold nodesT
    rw [nodeT_good (g n List.mem_cons_self) f, ih fun z hz => g z (List.mem_cons_of_mem _ hz)]
    rfl
theorem Rows.len {rs : List Str} {ns : List Nd} (h : Rows rs ns) : rs.length = ns.length := by
  induction h with
  | nil => rfl
  | cons f _ ih => rw [List.length_cons, List.length_cons, ih]
theorem mem_joinL {S : List Nat} {c : Nat} : ∀ {ps : List (List Nat)}, c ∈ TL.joinL S ps → c ∈ S ∨ ∃ p ∈ ps, c ∈ p
  | [], h => by cases h
  | [p], h => .inr ⟨p, List.mem_cons_self, h⟩
  | p :: q :: r, h => by
    have h' : c ∈ p ++ (S ++ TL.joinL S (q :: r)) := h
    rcases List.mem_append.mp h' with h | h
    · exact .inr ⟨p, List.mem_cons_self, h⟩
    rcases List.mem_append.mp h with h | h
    · exact .inl h
    · rcases mem_joinL (ps := q :: r) h with h | ⟨z, hz, hc⟩
      · exact .inl h
      · exact .inr ⟨z, List.mem_cons_of_mem _ hz, hc⟩
theorem row_no_nl {many : Nat} {n : Nd} (g : GoodNd many n) (f : Bool) : 10 ∉ TL.tl (rowS f n) := fun h => by
  unfold rowS at h
  rw [TL.join_eq, TL.tl_join, tl_sp] at h
  rcases mem_joinL h with h | ⟨p, hp, hc⟩
  · revert h
    decide
  · obtain ⟨z, hz, rfl⟩ := List.mem_map.mp hp
    exact (solid_row g f z hz 10 hc).2 rfl
theorem split_rows {many : Nat} {rs : List Str} {ns : List Nd} (h : Rows rs ns) (g : ∀ n ∈ ns, GoodNd many n) (hn : ns ≠ []) : Txt.split (Txt.join sNl rs) sNl = rs := by
  have hne : rs ≠ [] := fun z => hn (List.length_eq_zero_iff.mp (by rw [← h.len, z]; rfl))
  refine TL.split_join (y := sNl) (s := 10) (S := []) tl_nl (by decide +kernel) hne ?_
  clear hn hne
  induction h with
  | nil => exact fun _ hz => nomatch hz
  | @cons n rs ns f _ ih =>
    intro z hz
    rcases List.mem_cons.mp hz with rfl | hz
    · exact row_no_nl (g n List.mem_cons_self) f
    · exact ih (fun y hy => g y (List.mem_cons_of_mem _ hy)) z hz
theorem parse_good {rs : List Str} {ns : List Nd} (h : Rows rs ns) (hn : ns ≠ []) (h8 : ns.length ≤ 8) (g : ∀ n ∈ ns, GoodNd ns.length n) : parseT (Txt.join sNl rs) = some ns := by
  unfold parseT
  rw [split_rows h g hn]
  dsimp only
  rw [h.len, if_pos h8, nodesT_good h g]
end Vf

set_option maxRecDepth 100000
set_option maxHeartbeats 4000000
namespace Vf
open PySem PySem.Spec PyProof.Rows L2
def top (i : Nat) : Stmt := PySem.Challenge.pw_sharedlines_k24_kinds_of_nodes.main.body.getD i (.Pass ⟨0, 0, 0, 0⟩)
abbrev s_wall : Stmt := top 0
abbrev s_is_integer : Stmt := top 3
abbrev s_is_integer_within : Stmt := top 4
abbrev s_is_name : Stmt := top 5
abbrev s_UnknownCell_init : Stmt := inClass (top 11) 0
abbrev s_InvalidText_init : Stmt := inClass (top 12) 0
abbrev s_Graph_init : Stmt := inClass (top 15) 0
abbrev s_explore : Stmt := top 16
abbrev s_placed : Stmt := top 20
abbrev s_places_at_start : Stmt := top 21
abbrev s_lines_at_start : Stmt := top 22
abbrev s_steps_ahead : Stmt := top 23
abbrev s_touched : Stmt := top 24
abbrev s_exchanged : Stmt := top 25
abbrev s_start : Stmt := top 28
abbrev s_node_kinds : Stmt := top 29
abbrev s_explored : Stmt := top 30
abbrev s_explored_from : Stmt := top 31
abbrev s_kind : Stmt := top 32
abbrev s_Layout_init : Stmt := inClass (top 37) 0
abbrev s_Layout_eq : Stmt := inClass (top 37) 1
abbrev s_Layout_cells : Stmt := inClass (top 37) 2
abbrev s_Layout_line_of : Stmt := inClass (top 37) 3
abbrev s_Layout_moved : Stmt := inClass (top 37) 4
abbrev s_check_cells : Stmt := top 38
abbrev s_check_room : Stmt := top 39
abbrev s_are_lines : Stmt := top 40
abbrev s_is_line : Stmt := top 41
abbrev s_filled : Stmt := top 42
abbrev s_Program_init : Stmt := inClass (top 48) 0
abbrev s_Program_parse : Stmt := inClass (top 48) 1
abbrev s_Program_str : Stmt := inClass (top 48) 2
abbrev s_Program_eq : Stmt := inClass (top 48) 3
abbrev s_nodes_of : Stmt := top 49
abbrev s_node_of : Stmt := top 50
abbrev s_targets_of : Stmt := top 51
abbrev s_law_feed : Stmt := top 53
abbrev s_law_take : Stmt := top 54
abbrev s_law_pick : Stmt := top 55
abbrev s_law_cells : Stmt := top 56
abbrev s_law_lines : Stmt := top 57
abbrev s_law_layout : Stmt := top 58
abbrev s_law_order : Stmt := top 59
abbrev s_law_nodes : Stmt := top 60
abbrev s_law_straight : Stmt := top 61
abbrev s_law_text : Stmt := top 62
abbrev s_law_start : Stmt := top 63
abbrev s_law_steps : Stmt := top 64
abbrev s_law_graph : Stmt := top 65
abbrev s_law_case : Stmt := top 66
abbrev s_law_kind : Stmt := top 67
abbrev s_law : Stmt := top 68
-- _wall: 0:k
abbrev n_wall : List Str := ["k"]
abbrev p_wall : List Str := ["k"]
theorem sc_wall : FnScope n_wall p_wall (defScope s_wall) := ⟨rfl, rfl, rfl, by decide +kernel, rfl, by decide +kernel, by decide +kernel⟩
-- is_integer: 0:value
abbrev n_is_integer : List Str := ["value"]
abbrev p_is_integer : List Str := ["value"]
theorem sc_is_integer : FnScope n_is_integer p_is_integer (defScope s_is_integer) := ⟨rfl, rfl, rfl, by decide +kernel, rfl, by decide +kernel, by decide +kernel⟩
-- is_integer_within: 0:value 1:low 2:high
abbrev n_is_integer_within : List Str := ["value", "low", "high"]
abbrev p_is_integer_within : List Str := ["value", "low", "high"]
theorem sc_is_integer_within : FnScope n_is_integer_within p_is_integer_within (defScope s_is_integer_within) := ⟨rfl, rfl, rfl, by decide +kernel, rfl, by decide +kernel, by decide +kernel⟩
-- is_name: 0:value 1:letter
abbrev n_is_name : List Str := ["value", "letter"]
abbrev p_is_name : List Str := ["value"]
theorem sc_is_name : FnScope n_is_name p_is_name (defScope s_is_name) := ⟨rfl, rfl, rfl, by decide +kernel, rfl, by decide +kernel, by decide +kernel⟩
-- UnknownCell.__init__: 0:self 1:cell
abbrev n_UnknownCell_init : List Str := ["self", "cell"]
abbrev p_UnknownCell_init : List Str := ["self", "cell"]
-- InvalidText.__init__: 0:self 1:row
abbrev n_InvalidText_init : List Str := ["self", "row"]
abbrev p_InvalidText_init : List Str := ["self", "row"]
-- Graph.__init__: 0:self 1:states 2:steps
abbrev n_Graph_init : List Str := ["self", "states", "steps"]
abbrev p_Graph_init : List Str := ["self", "states", "steps"]
theorem sc_Graph_init : FnScope n_Graph_init p_Graph_init (defScope s_Graph_init) := ⟨rfl, rfl, rfl, by decide +kernel, rfl, by decide +kernel, by decide +kernel⟩
-- explore: 0:first 1:steps_of 2:most 3:states 4:numbers 5:steps 6:ahead 7:row 8:thread 9:target 10:moves 11:behind
abbrev n_explore : List Str := ["first", "steps_of", "most", "states", "numbers", "steps", "ahead", "row", "thread", "target", "moves", "behind"]
abbrev p_explore : List Str := ["first", "steps_of", "most"]
theorem sc_explore : FnScope n_explore p_explore (defScope s_explore) := ⟨rfl, rfl, rfl, by decide +kernel, rfl, by decide +kernel, by decide +kernel⟩
-- placed: 0:layout 1:threads 2:program 3:word 4:cell 5:targets
abbrev n_placed : List Str := ["layout", "threads", "program", "word", "cell", "targets"]
abbrev p_placed : List Str := ["layout", "threads"]
theorem sc_placed : FnScope n_placed p_placed (defScope s_placed) := ⟨rfl, rfl, rfl, by decide +kernel, rfl, by decide +kernel, by decide +kernel⟩
-- places_at_start: 0:threads 1:_
abbrev n_places_at_start : List Str := ["threads", "_"]
abbrev p_places_at_start : List Str := ["threads"]
theorem sc_places_at_start : FnScope n_places_at_start p_places_at_start (defScope s_places_at_start) := ⟨rfl, rfl, rfl, by decide +kernel, rfl, by decide +kernel, by decide +kernel⟩
-- lines_at_start: 0:layout 1:_
abbrev n_lines_at_start : List Str := ["layout", "_"]
abbrev p_lines_at_start : List Str := ["layout"]
theorem sc_lines_at_start : FnScope n_lines_at_start p_lines_at_start (defScope s_lines_at_start) := ⟨rfl, rfl, rfl, by decide +kernel, rfl, by decide +kernel, by decide +kernel⟩
-- steps_ahead: 0:nodes 1:state 2:places 3:lines 4:found 5:thread 6:place 7:node 8:moves 9:lines_behind 10:target
abbrev n_steps_ahead : List Str := ["nodes", "state", "places", "lines", "found", "thread", "place", "node", "moves", "lines_behind", "target"]
abbrev p_steps_ahead : List Str := ["nodes", "state"]
theorem sc_steps_ahead : FnScope n_steps_ahead p_steps_ahead (defScope s_steps_ahead) := ⟨rfl, rfl, rfl, by decide +kernel, rfl, by decide +kernel, by decide +kernel⟩
-- _touched: 0:lines 1:thread 2:node 3:number 4:writes 5:_ 6:holders 7:is_owned 8:held
abbrev n_touched : List Str := ["lines", "thread", "node", "number", "writes", "_", "holders", "is_owned", "held"]
abbrev p_touched : List Str := ["lines", "thread", "node"]
theorem sc_touched : FnScope n_touched p_touched (defScope s_touched) := ⟨rfl, rfl, rfl, by decide +kernel, rfl, by decide +kernel, by decide +kernel⟩
-- _exchanged: 0:values 1:at 2:value
abbrev n_exchanged : List Str := ["values", "at", "value"]
abbrev p_exchanged : List Str := ["values", "at", "value"]
theorem sc_exchanged : FnScope n_exchanged p_exchanged (defScope s_exchanged) := ⟨rfl, rfl, rfl, by decide +kernel, rfl, by decide +kernel, by decide +kernel⟩
-- start: 0:layout 1:threads
abbrev n_start : List Str := ["layout", "threads"]
abbrev p_start : List Str := ["layout", "threads"]
theorem sc_start : FnScope n_start p_start (defScope s_start) := ⟨rfl, rfl, rfl, by decide +kernel, rfl, by decide +kernel, by decide +kernel⟩
-- node_kinds: 0:layout 1:threads 2:graph 3:free 4:paid 5:state 6:row 7:thread 8:_ 9:moves 10:table 11:program 12:of_free 13:of_paid 14:is_free 15:is_paid
abbrev n_node_kinds : List Str := ["layout", "threads", "graph", "free", "paid", "state", "row", "thread", "_", "moves", "table", "program", "of_free", "of_paid", "is_free", "is_paid"]
abbrev p_node_kinds : List Str := ["layout", "threads"]
theorem sc_node_kinds : FnScope n_node_kinds p_node_kinds (defScope s_node_kinds) := ⟨rfl, rfl, rfl, by decide +kernel, rfl, by decide +kernel, by decide +kernel⟩
-- explored: 0:layout 1:threads 2:most
abbrev n_explored : List Str := ["layout", "threads", "most"]
abbrev p_explored : List Str := ["layout", "threads", "most"]
theorem sc_explored : FnScope n_explored p_explored (defScope s_explored) := ⟨rfl, rfl, rfl, by decide +kernel, rfl, by decide +kernel, by decide +kernel⟩
-- explored_from: 0:layout 1:threads 2:state 3:most 4:nodes
abbrev n_explored_from : List Str := ["layout", "threads", "state", "most", "nodes"]
abbrev p_explored_from : List Str := ["layout", "threads", "state", "most"]
theorem sc_explored_from : FnScope n_explored_from p_explored_from (defScope s_explored_from) := ⟨rfl, rfl, rfl, by decide +kernel, rfl, by decide +kernel, by decide +kernel⟩
-- _kind: 0:is_free 1:is_paid
abbrev n_kind : List Str := ["is_free", "is_paid"]
abbrev p_kind : List Str := ["is_free", "is_paid"]
theorem sc_kind : FnScope n_kind p_kind (defScope s_kind) := ⟨rfl, rfl, rfl, by decide +kernel, rfl, by decide +kernel, by decide +kernel⟩
-- Layout.__init__: 0:self 1:cells 2:room 3:lines 4:name 5:line 6:number
abbrev n_Layout_init : List Str := ["self", "cells", "room", "lines", "name", "line", "number"]
abbrev p_Layout_init : List Str := ["self", "cells", "room", "lines"]
theorem sc_Layout_init : FnScope n_Layout_init p_Layout_init (defScope s_Layout_init) := ⟨rfl, rfl, rfl, by decide +kernel, rfl, by decide +kernel, by decide +kernel⟩
-- Layout.__eq__: 0:self 1:other
abbrev n_Layout_eq : List Str := ["self", "other"]
abbrev p_Layout_eq : List Str := ["self", "other"]
theorem sc_Layout_eq : FnScope n_Layout_eq p_Layout_eq (defScope s_Layout_eq) := ⟨rfl, rfl, rfl, by decide +kernel, rfl, by decide +kernel, by decide +kernel⟩
-- Layout.cells: 0:self
abbrev n_Layout_cells : List Str := ["self"]
abbrev p_Layout_cells : List Str := ["self"]
theorem sc_Layout_cells : FnScope n_Layout_cells p_Layout_cells (defScope s_Layout_cells) := ⟨rfl, rfl, rfl, by decide +kernel, rfl, by decide +kernel, by decide +kernel⟩
-- Layout.line_of: 0:self 1:cell
abbrev n_Layout_line_of : List Str := ["self", "cell"]
abbrev p_Layout_line_of : List Str := ["self", "cell"]
theorem sc_Layout_line_of : FnScope n_Layout_line_of p_Layout_line_of (defScope s_Layout_line_of) := ⟨rfl, rfl, rfl, by decide +kernel, rfl, by decide +kernel, by decide +kernel⟩
-- Layout.moved: 0:self 1:cell 2:line
abbrev n_Layout_moved : List Str := ["self", "cell", "line"]
abbrev p_Layout_moved : List Str := ["self", "cell", "line"]
theorem sc_Layout_moved : FnScope n_Layout_moved p_Layout_moved (defScope s_Layout_moved) := ⟨rfl, rfl, rfl, by decide +kernel, rfl, by decide +kernel, by decide +kernel⟩
-- _check_cells: 0:cells 1:name 2:size
abbrev n_check_cells : List Str := ["cells", "name", "size"]
abbrev p_check_cells : List Str := ["cells"]
theorem sc_check_cells : FnScope n_check_cells p_check_cells (defScope s_check_cells) := ⟨rfl, rfl, rfl, by decide +kernel, rfl, by decide +kernel, by decide +kernel⟩
-- _check_room: 0:room
abbrev n_check_room : List Str := ["room"]
abbrev p_check_room : List Str := ["room"]
theorem sc_check_room : FnScope n_check_room p_check_room (defScope s_check_room) := ⟨rfl, rfl, rfl, by decide +kernel, rfl, by decide +kernel, by decide +kernel⟩
-- _are_lines: 0:sizes 1:room 2:lines 3:line 4:name
abbrev n_are_lines : List Str := ["sizes", "room", "lines", "line", "name"]
abbrev p_are_lines : List Str := ["sizes", "room", "lines"]
theorem sc_are_lines : FnScope n_are_lines p_are_lines (defScope s_are_lines) := ⟨rfl, rfl, rfl, by decide +kernel, rfl, by decide +kernel, by decide +kernel⟩
-- _is_line: 0:sizes 1:room 2:line 3:name
abbrev n_is_line : List Str := ["sizes", "room", "line", "name"]
abbrev p_is_line : List Str := ["sizes", "room", "line"]
theorem sc_is_line : FnScope n_is_line p_is_line (defScope s_is_line) := ⟨rfl, rfl, rfl, by decide +kernel, rfl, by decide +kernel, by decide +kernel⟩
-- _filled: 0:sizes 1:line 2:name
abbrev n_filled : List Str := ["sizes", "line", "name"]
abbrev p_filled : List Str := ["sizes", "line"]
theorem sc_filled : FnScope n_filled p_filled (defScope s_filled) := ⟨rfl, rfl, rfl, by decide +kernel, rfl, by decide +kernel, by decide +kernel⟩
-- Program.__init__: 0:self 1:text
abbrev n_Program_init : List Str := ["self", "text"]
abbrev p_Program_init : List Str := ["self", "text"]
theorem sc_Program_init : FnScope n_Program_init p_Program_init (defScope s_Program_init) := ⟨rfl, rfl, rfl, by decide +kernel, rfl, by decide +kernel, by decide +kernel⟩
-- Program.parse: 0:text
abbrev n_Program_parse : List Str := ["text"]
abbrev p_Program_parse : List Str := ["text"]
theorem sc_Program_parse : FnScope n_Program_parse p_Program_parse (defScope s_Program_parse) := ⟨rfl, rfl, rfl, by decide +kernel, rfl, by decide +kernel, by decide +kernel⟩
-- Program.__str__: 0:self
abbrev n_Program_str : List Str := ["self"]
abbrev p_Program_str : List Str := ["self"]
theorem sc_Program_str : FnScope n_Program_str p_Program_str (defScope s_Program_str) := ⟨rfl, rfl, rfl, by decide +kernel, rfl, by decide +kernel, by decide +kernel⟩
-- Program.__eq__: 0:self 1:other
abbrev n_Program_eq : List Str := ["self", "other"]
abbrev p_Program_eq : List Str := ["self", "other"]
theorem sc_Program_eq : FnScope n_Program_eq p_Program_eq (defScope s_Program_eq) := ⟨rfl, rfl, rfl, by decide +kernel, rfl, by decide +kernel, by decide +kernel⟩
-- _nodes_of: 0:text 1:rows 2:numbers 3:nodes 4:index 5:row 6:node 7:number
abbrev n_nodes_of : List Str := ["text", "rows", "numbers", "nodes", "index", "row", "node", "number"]
abbrev p_nodes_of : List Str := ["text"]
theorem sc_nodes_of : FnScope n_nodes_of p_nodes_of (defScope s_nodes_of) := ⟨rfl, rfl, rfl, by decide +kernel, rfl, by decide +kernel, by decide +kernel⟩
-- _node_of: 0:row 1:numbers 2:words 3:targets
abbrev n_node_of : List Str := ["row", "numbers", "words", "targets"]
abbrev p_node_of : List Str := ["row", "numbers"]
theorem sc_node_of : FnScope n_node_of p_node_of (defScope s_node_of) := ⟨rfl, rfl, rfl, by decide +kernel, rfl, by decide +kernel, by decide +kernel⟩
-- _targets_of: 0:words 1:numbers 2:may_end 3:named 4:targets 5:word
abbrev n_targets_of : List Str := ["words", "numbers", "may_end", "named", "targets", "word"]
abbrev p_targets_of : List Str := ["words", "numbers"]
theorem sc_targets_of : FnScope n_targets_of p_targets_of (defScope s_targets_of) := ⟨rfl, rfl, rfl, by decide +kernel, rfl, by decide +kernel, by decide +kernel⟩
-- _law_feed: 0:script 1:k 2:seed 3:digits
abbrev n_law_feed : List Str := ["script", "k", "seed", "digits"]
abbrev p_law_feed : List Str := ["script", "k"]
theorem sc_law_feed : FnScope n_law_feed p_law_feed (defScope s_law_feed) := ⟨rfl, rfl, rfl, by decide +kernel, rfl, by decide +kernel, by decide +kernel⟩
-- _law_take: 0:feed 1:size 2:digit
abbrev n_law_take : List Str := ["feed", "size", "digit"]
abbrev p_law_take : List Str := ["feed", "size"]
theorem sc_law_take : FnScope n_law_take p_law_take (defScope s_law_take) := ⟨rfl, rfl, rfl, by decide +kernel, rfl, by decide +kernel, by decide +kernel⟩
-- _law_pick: 0:feed 1:choices
abbrev n_law_pick : List Str := ["feed", "choices"]
abbrev p_law_pick : List Str := ["feed", "choices"]
theorem sc_law_pick : FnScope n_law_pick p_law_pick (defScope s_law_pick) := ⟨rfl, rfl, rfl, by decide +kernel, rfl, by decide +kernel, by decide +kernel⟩
-- _law_cells: 0:feed 1:most 2:some 3:names 4:found 5:name
abbrev n_law_cells : List Str := ["feed", "most", "some", "names", "found", "name"]
abbrev p_law_cells : List Str := ["feed", "most"]
theorem sc_law_cells : FnScope n_law_cells p_law_cells (defScope s_law_cells) := ⟨rfl, rfl, rfl, by decide +kernel, rfl, by decide +kernel, by decide +kernel⟩
-- _law_lines: 0:feed 1:cells 2:room 3:found 4:name 5:place 6:line 7:one
abbrev n_law_lines : List Str := ["feed", "cells", "room", "found", "name", "place", "line", "one"]
abbrev p_law_lines : List Str := ["feed", "cells", "room"]
theorem sc_law_lines : FnScope n_law_lines p_law_lines (defScope s_law_lines) := ⟨rfl, rfl, rfl, by decide +kernel, rfl, by decide +kernel, by decide +kernel⟩
-- _law_layout: 0:feed 1:most 2:cells 3:room
abbrev n_law_layout : List Str := ["feed", "most", "cells", "room"]
abbrev p_law_layout : List Str := ["feed", "most"]
theorem sc_law_layout : FnScope n_law_layout p_law_layout (defScope s_law_layout) := ⟨rfl, rfl, rfl, by decide +kernel, rfl, by decide +kernel, by decide +kernel⟩
-- _law_order: 0:lines 1:line
abbrev n_law_order : List Str := ["lines", "line"]
abbrev p_law_order : List Str := ["lines"]
theorem sc_law_order : FnScope n_law_order p_law_order (defScope s_law_order) := ⟨rfl, rfl, rfl, by decide +kernel, rfl, by decide +kernel, by decide +kernel⟩
-- _law_nodes: 0:feed 1:cells 2:most 3:many 4:found 5:at 6:targets 7:word 8:one
abbrev n_law_nodes : List Str := ["feed", "cells", "most", "many", "found", "at", "targets", "word", "one"]
abbrev p_law_nodes : List Str := ["feed", "cells", "most"]
theorem sc_law_nodes : FnScope n_law_nodes p_law_nodes (defScope s_law_nodes) := ⟨rfl, rfl, rfl, by decide +kernel, rfl, by decide +kernel, by decide +kernel⟩
-- _law_straight: 0:feed 1:cells 2:most 3:many 4:found 5:at 6:targets 7:word 8:one
abbrev n_law_straight : List Str := ["feed", "cells", "most", "many", "found", "at", "targets", "word", "one"]
abbrev p_law_straight : List Str := ["feed", "cells", "most"]
theorem sc_law_straight : FnScope n_law_straight p_law_straight (defScope s_law_straight) := ⟨rfl, rfl, rfl, by decide +kernel, rfl, by decide +kernel, by decide +kernel⟩
-- _law_text: 0:nodes 1:rows 2:word 3:cell 4:targets 5:row 6:one
abbrev n_law_text : List Str := ["nodes", "rows", "word", "cell", "targets", "row", "one"]
abbrev p_law_text : List Str := ["nodes"]
theorem sc_law_text : FnScope n_law_text p_law_text (defScope s_law_text) := ⟨rfl, rfl, rfl, by decide +kernel, rfl, by decide +kernel, by decide +kernel⟩
-- _law_start: 0:lines 1:every 2:nodes 3:line
abbrev n_law_start : List Str := ["lines", "every", "nodes", "line"]
abbrev p_law_start : List Str := ["lines", "every"]
theorem sc_law_start : FnScope n_law_start p_law_start (defScope s_law_start) := ⟨rfl, rfl, rfl, by decide +kernel, rfl, by decide +kernel, by decide +kernel⟩
-- _law_steps: 0:lines 1:every 2:state 3:places 4:held 5:found 6:thread 7:nodes 8:word 9:cell 10:targets 11:at 12:holders 13:is_owned 14:moves 15:more 16:behind 17:target 18:number 19:line
abbrev n_law_steps : List Str := ["lines", "every", "state", "places", "held", "found", "thread", "nodes", "word", "cell", "targets", "at", "holders", "is_owned", "moves", "more", "behind", "target", "number", "line"]
abbrev p_law_steps : List Str := ["lines", "every", "state"]
theorem sc_law_steps : FnScope n_law_steps p_law_steps (defScope s_law_steps) := ⟨rfl, rfl, rfl, by decide +kernel, rfl, by decide +kernel, by decide +kernel⟩
-- _law_graph: 0:lines 1:every 2:most 3:begin 4:found 5:waiting 6:state 7:step
abbrev n_law_graph : List Str := ["lines", "every", "most", "begin", "found", "waiting", "state", "step"]
abbrev p_law_graph : List Str := ["lines", "every", "most"]
theorem sc_law_graph : FnScope n_law_graph p_law_graph (defScope s_law_graph) := ⟨rfl, rfl, rfl, by decide +kernel, rfl, by decide +kernel, by decide +kernel⟩
-- _law_case: 0:feed 1:most 2:cells 3:room 4:lines 5:order 6:many 7:size 8:every 9:thread 10:is_straight 11:found
abbrev n_law_case : List Str := ["feed", "most", "cells", "room", "lines", "order", "many", "size", "every", "thread", "is_straight", "found"]
abbrev p_law_case : List Str := ["feed", "most"]
theorem sc_law_case : FnScope n_law_case p_law_case (defScope s_law_case) := ⟨rfl, rfl, rfl, by decide +kernel, rfl, by decide +kernel, by decide +kernel⟩
-- _law_kind: 0:graph 1:thread 2:node 3:seen 4:state 5:step
abbrev n_law_kind : List Str := ["graph", "thread", "node", "seen", "state", "step"]
abbrev p_law_kind : List Str := ["graph", "thread", "node"]
theorem sc_law_kind : FnScope n_law_kind p_law_kind (defScope s_law_kind) := ⟨rfl, rfl, rfl, by decide +kernel, rfl, by decide +kernel, by decide +kernel⟩
-- law: 0:script 1:k 2:feed 3:parts 4:order 5:every 6:graph 7:near 8:layout 9:threads 10:due 11:thread 12:nodes 13:found 14:node
abbrev n_law : List Str := ["script", "k", "feed", "parts", "order", "every", "graph", "near", "layout", "threads", "due", "thread", "nodes", "found", "node"]
abbrev p_law : List Str := ["script"]
theorem sc_law : FnScope n_law p_law (defScope s_law) := ⟨rfl, rfl, rfl, by decide +kernel, rfl, by decide +kernel, by decide +kernel⟩

def OkF (P : Program) (w : World) (K : PySem.W.Frag) (mg : Str → Option Value) (base : Heap) (CX : CXT) (x : Str) (ps : List Str) (k : Nat) (sp : Sp) : Prop :=
  ∃ (f : Addr) (fd : FuncData), mg x = some (.ref f) ∧ PySem.W.keepIn K (.ref f) = true ∧ Binds K fd ps [] ∧ FnOk P w K mg base CX k f fd ps sp
theorem pe_fn {X : Cx} {CX : CXT} {x : Str} {ps : List Str} {k : Nat} {sp : Sp} {E : XK} {e : Expr} {es : List Expr} {t : TA} {p pos : Pos} (G : OkF X.prog X.w X.K X.mg X.base CX x ps k sp) (hr : Room k X.A) (hg : Gl X x) (hx : Passes CX X E)
    (ha : PA X (e :: es) t) (hdb : (x == ("__debug__" : Str)) = false := by decide) (he : starEach (e :: es) X.env = (false, eval e X.env) :: starEach es X.env := by rfl) (hpl : (backTo pos (starEach es X.env)).any (·.1) = false := by rfl) :
    PE X (.Call (.Name x p) (e :: es) [] pos) (tCall sp [] E t) := by
  obtain ⟨f, fd, hm, hk, hb, F⟩ := G
  exact pe_call F hr hg hm hk hb .nil hx ha hdb he hpl
/-- what the top leaves: names that are still the built-ins, constants -/
structure Txt0 (K : PySem.W.Frag) (mg : Str → Option Value) : Prop where
  len : mg "len" = none
  isinstance : mg "isinstance" = none
  all : mg "all" = none
  str : mg "str" = none
  int : mg "int" = none
  bool : mg "bool" = none
  dict : mg "dict" = none
  list : mg "list" = none
  sum : mg "sum" = none
  longest : ∃ t, mg "LONGEST_NAME" = some (.int 8 t)
  cells : ∃ t, mg "MOST_CELLS" = some (.int 6 t)
  size : ∃ t, mg "LARGEST_SIZE" = some (.int 8 t)
  room : ∃ t, mg "LARGEST_ROOM" = some (.int 32 t)
  sorted : mg "sorted" = none
  tuple : mg "tuple" = none
  enumerate : mg "enumerate" = none
  max : mg "max" = none
  most : ∃ t, mg "MOST_NODES" = some (.int 8 t)
  arrow : ∃ t, mg "ARROW" = some (.str sArrow t)
  end_ : ∃ t, mg "END" = some (.str sEnd t)
  words : ∃ a, mg "WORDS" = some (.ref a) ∧ ∀ H, SqT K H a [.str sRead, .str sWrite]
  range : mg "range" = none
  set : mg "set" = none
  abs : mg "abs" = none
  zip : mg "zip" = none
end Vf

set_option maxRecDepth 100000
set_option maxHeartbeats 4000000
namespace Vf
open PySem PySem.Spec PyProof.Rows L2
section
variable {P : Program} {w : World} {K : PySem.W.Frag} {mg : Str → Option Value} {base : Heap}
theorem lt_one (a b : Nat) : (decide ([a] < [b]) : Bool) = decide (a < b) := by
  refine decide_eq_decide.mpr ⟨fun q => ?_, fun h => List.Lex.rel h⟩
  cases q with
  | rel q => exact q
  | cons q => cases q
theorem cps_size (z : Str) : z.cps.toList.length = z.length := by simp [Str.length]
/-- is_name(text) -/
def sp_is_name : Sp := fun vs H Q _ => ∃ z : Str, vs = [.str z] ∧ z.length ≤ 1000000 ∧ ∀ H', Same H H' → Q (.bl (isNameT z)) H'
theorem ok_is_name {f : Addr} {fd : FuncData} (F : Fun K "is_name" "is_name" s_is_name f fd) (T : Txt0 K mg) : FnOk P w K mg base CX0 1 f fd p_is_name sp_is_name := by
  refine F.ok sc_is_name (fun vs H Q E h => ?_) (fun cdv A outer s H vs Q E hr h => ?_)
  · obtain ⟨z, rfl, _⟩ := h
    rfl
  · obtain ⟨z, rfl, hz, k⟩ := h
    obtain ⟨t8, e8⟩ := T.longest
    refine ⟨_, pss_cons (ps_if (PW.pt (pw_or (pt_not (pt_val (pe_callB call_isi (by rfl) T.isinstance boot_isinstance (pa_cons (pv 0) (pa_cons (pe_bltn (by rfl) T.str boot_str (v := .ty "str") rfl) pa_nil)))))
        (pw_or1 (pt_not (pt_chain op_le op_le pe_int (pe_callB call_len_str (by rfl) T.len PySem.boot_len (pa_cons (pv 0) pa_nil)) (pe_glob (v := .int 8) rfl e8 ⟨_, rfl⟩))))))
        (pss_one (ps_ret pe_bl)) pss_nil)
      (pss_one (ps_ret (pe_callB (cr_all rfl) (by rfl) T.all (by decide +kernel)
        (pa_cons (pe_lc (own := [("letter", 1)]) (g := gName 1) (tt := tYes) rfl sc_is_name.nd (pi_str (pv 0)) (blkOk_by (N := n_is_name) (sc := defScope s_is_name) (by decide +kernel))
          (fun _ _ _ _ _ => pg_name (i := 1) sc_is_name.nd rfl (Or.inl rfl)) (fun _ _ _ _ _ => pts_nil)
          (fun _ _ _ _ _ => pe_chain op_le_str op_le_str pe_str (pv 1) pe_str)) pa_nil)))), ?_⟩
    have hzl : z.length ≤ sizeLine := Nat.le_trans hz (by decide)
    refine ⟨_, rfl, _, _, _, _, true, rfl, .ty _, .base (.str _), kit_ty (by decide +kernel), _, rfl, iteF ?_⟩
    refine ⟨_, rfl, z, rfl, hzl, 1, (z.length : Int), rfl, rfl, decide ((1 : Int) ≤ z.length), rfl, ?_⟩
    have out : isNameT z = false → Q (.bl false) H := fun e => e ▸ k H (Same.refl H)
    by_cases h1 : (1 : Int) ≤ z.length
    case neg =>
      rw [decide_eq_false h1]
      refine iteF ⟨_, rfl, iteT (out ?_)⟩
      unfold isNameT
      rw [decide_eq_false (by omega)]
      rfl
    rw [decide_eq_true h1]
    refine iteT ⟨_, _, rfl, rfl, ⟨_, rfl, ?_⟩⟩
    by_cases h2 : (z.length : Int) ≤ 8
    case neg =>
      rw [decide_eq_false h2]
      refine iteT (out ?_)
      unfold isNameT
      rw [decide_eq_false (p := z.length ≤ 8) (by omega), Bool.and_false]
      rfl
    rw [decide_eq_true h2]
    refine iteF ?_
    have wz : Walk (Its z) z.cps.toList.length (fun _ => True) (fun i H v H' => H' = H ∧ ∃ c, z.cps[i]? = some c ∧ v = .str ⟨#[c]⟩) := by
      rw [cps_size]
      exact walk_str
    refine ⟨_, rfl, z, rfl, fun D hD => lc_mp z.cps.toList wz hD (fun c => .bl (decide (97 ≤ c) && decide (c ≤ 122))) (by rw [cps_size]; omega) (fun _ _ => trivial) ?_ ?_⟩
    · rintro i c x H2 H3 hc s2 ⟨rfl, c', hc', rfl⟩ R hR
      obtain rfl : c' = c := by
        rw [Array.getElem?_toList] at hc
        exact Option.some.inj (hc'.symm.trans hc)
      have ea : ("a" : Str).cps.toList = [97] := by decide +kernel
      have ez : ("z" : Str).cps.toList = [122] := by decide +kernel
      refine ⟨rfl, _, rfl, _, _, rfl, rfl, _, rfl, ?_⟩
      have e1 : (!decide ([c'] < ("a" : Str).cps.toList)) = decide (97 ≤ c') := by
        rw [ea, lt_one, ← decide_not]
        exact decide_eq_decide.mpr Nat.not_lt
      have e2 : (!decide (("z" : Str).cps.toList < [c'])) = decide (c' ≤ 122) := by
        rw [ez, lt_one, ← decide_not]
        exact decide_eq_decide.mpr Nat.not_lt
      show if (!decide ([c'] < ("a" : Str).cps.toList)) = true then _ else _
      rw [e1]
      have hk := hR H3 (Same.refl H3)
      by_cases g1 : 97 ≤ c'
      · rw [decide_eq_true g1, Bool.true_and] at hk
        rw [decide_eq_true g1]
        refine iteT ⟨_, _, rfl, rfl, ?_⟩
        show R (.bl (!decide (("z" : Str).cps.toList < [c']))) H3
        rw [e2]
        exact hk
      · rw [decide_eq_false g1, Bool.false_and] at hk
        rw [decide_eq_false g1]
        exact iteF hk
    · intro H2 s2 hL
      refine ⟨D, z.cps.toList.map fun c => decide (97 ≤ c) && decide (c ≤ 122), rfl, ?_, ?_⟩
      · rw [List.map_map]
        exact SqL.of hL
      · rw [List.all_map]
        have e : isNameT z = (z.cps.toList.all fun c => decide (97 ≤ c) && decide (c ≤ 122)) := by
          unfold isNameT
          rw [decide_eq_true (p := 1 ≤ z.length) (by omega), decide_eq_true (p := z.length ≤ 8) (by omega), Bool.true_and, Bool.true_and]
        have q := k H2 s2
        rw [e] at q
        exact q
end
end Vf

set_option maxRecDepth 100000
set_option maxHeartbeats 4000000
namespace Vf
open PySem PySem.Spec PyProof.Rows L2
mutual
def plainD : PyData → Bool
  | .none => true
  | .bool _ => false
  | .int _ => true
  | .str x => PyData.strOk x
  | .list xs => plainAll xs
  | .tuple xs => plainAll xs
  | .dict _ => false
def plainAll : List PyData → Bool
  | [] => true
  | x :: xs => plainD x && plainAll xs
end
mutual
theorem eqv_iff : ∀ d e : PyData, plainD d = true → plainD e = true → (PyData.eqv d e = true ↔ d = e)
  | .bool _, _, h, _ => by simp [plainD] at h
  | .dict _, _, h, _ => by simp [plainD] at h
  | .none, e, _, h => by cases e <;> simp_all [PyData.eqv, plainD]
  | .int i, e, _, h => by cases e <;> simp_all [PyData.eqv, plainD]
  | .str x, e, _, h => by cases e <;> simp_all [PyData.eqv, plainD]
  | .list xs, e, h1, h => by
    cases e with
    | list ys =>
      have := eqvAll_iff xs ys (by simpa [plainD] using h1) (by simpa [plainD] using h)
      simp only [PyData.eqv, PyData.list.injEq]
      exact this
    | _ => simp_all [PyData.eqv, plainD]
  | .tuple xs, e, h1, h => by
    cases e with
    | tuple ys =>
      have := eqvAll_iff xs ys (by simpa [plainD] using h1) (by simpa [plainD] using h)
      simp only [PyData.eqv, PyData.tuple.injEq]
      exact this
    | _ => simp_all [PyData.eqv, plainD]
theorem eqvAll_iff : ∀ xs ys : List PyData, plainAll xs = true → plainAll ys = true → (PyData.eqvAll xs ys = true ↔ xs = ys)
  | [], [], _, _ => by simp [PyData.eqvAll]
  | [], _ :: _, _, _ => by simp [PyData.eqvAll]
  | _ :: _, [], _, _ => by simp [PyData.eqvAll]
  | x :: xs, y :: ys, h1, h2 => by
    simp only [plainAll, Bool.and_eq_true] at h1 h2
    simp only [PyData.eqvAll, Bool.and_eq_true, List.cons.injEq, eqv_iff x y h1.1 h2.1, eqvAll_iff xs ys h1.2 h2.2]
end
mutual
theorem canLay_plain : ∀ d : PyData, plainD d = true → d.canLay0 = true
  | .none, _ => by simp [PyData.canLay0]
  | .bool _, h => by simp [plainD] at h
  | .int _, _ => by simp [PyData.canLay0]
  | .str x, h => by simpa [PyData.canLay0, plainD] using h
  | .list xs, h => by
    simp only [PyData.canLay0]
    exact canLayAll_plain xs (by simpa [plainD] using h)
  | .tuple xs, h => by
    simp only [PyData.canLay0]
    exact canLayAll_plain xs (by simpa [plainD] using h)
  | .dict _, h => by simp [plainD] at h
theorem canLayAll_plain : ∀ xs : List PyData, plainAll xs = true → PyData.canLayAll0 xs = true
  | [], _ => by simp [PyData.canLayAll0]
  | x :: xs, h => by
    simp only [plainAll, Bool.and_eq_true] at h
    simp only [PyData.canLayAll0, Bool.and_eq_true]
    exact ⟨canLay_plain x h.1, canLayAll_plain xs h.2⟩
end
theorem shaped_of {d : PyData} (h : plainD d = true) (hd : d.depth ≤ 64) : SeqAt.shaped d = true := by
  unfold SeqAt.shaped
  rw [canLay_plain d h, decide_eq_true hd]
  rfl
theorem eqv_dec {d e : PyData} {p : Prop} [Decidable p] (h1 : plainD d = true) (h2 : plainD e = true) (hp : d = e ↔ p) : PyData.eqv d e = decide p := by
  by_cases h : p
  · rw [decide_eq_true h]
    exact (eqv_iff d e h1 h2).mpr (hp.mpr h)
  · rw [decide_eq_false h]
    cases q : PyData.eqv d e with
    | false => rfl
    | true => exact absurd (hp.mp ((eqv_iff d e h1 h2).mp q)) h
theorem plain_ints : ∀ ns : List Int, plainAll (ns.map PyData.int) = true
  | [] => rfl
  | n :: ns => by simp only [List.map_cons, plainAll, plainD, Bool.true_and, plain_ints ns]
theorem depth_ints : ∀ ns : List Int, PyData.depthAll (ns.map PyData.int) = 0
  | [] => rfl
  | n :: ns => by simp only [List.map_cons, PyData.depthAll, PyData.depth, depth_ints ns, Nat.max_self]
theorem dp_ints {K : PySem.W.Frag} {H : Hp} : ∀ ns : List Int, DpAll K H (ns.map V.int) (ns.map PyData.int)
  | [] => .nil
  | n :: ns => .cons (.int n) (dp_ints ns)
theorem map_int_inj {a b : List Int} : PyData.list (a.map PyData.int) = PyData.list (b.map PyData.int) ↔ a = b := by
  refine ⟨fun h => ?_, fun h => by rw [h]⟩
  have h' : a.map PyData.int = b.map PyData.int := by injection h
  clear h
  induction a generalizing b with
  | nil => cases b <;> simp_all
  | cons x a ih =>
    cases b with
    | nil => cases h'
    | cons y b =>
      rw [List.map_cons, List.map_cons] at h'
      injection h' with h1 h2
      injection h1 with h3
      rw [h3, ih h2]
theorem shaped_ints (ns : List Int) : SeqAt.shaped (.list (ns.map PyData.int)) = true :=
  shaped_of (by simp only [plainD, plain_ints]) (by simp only [PyData.depth, depth_ints]; decide)
theorem eqv_ints (a b : List Int) : PyData.eqv (.list (a.map PyData.int)) (.list (b.map PyData.int)) = decide (a = b) :=
  eqv_dec (by simp only [plainD, plain_ints]) (by simp only [plainD, plain_ints]) map_int_inj
theorem rises_iff : ∀ l : List Nat, rises l = true ↔ l.Pairwise (· < ·)
  | [] => by simp [rises]
  | [a] => by simp [rises]
  | a :: b :: r => by
    have ih := rises_iff (b :: r)
    simp only [rises, Bool.and_eq_true, decide_eq_true_eq, ih]
    constructor
    · rintro ⟨h1, h2⟩
      refine List.pairwise_cons.mpr ⟨fun x hx => ?_, h2⟩
      rcases List.mem_cons.mp hx with rfl | hx
      · exact h1
      · exact Nat.lt_trans h1 ((List.pairwise_cons.mp h2).1 x hx)
    · intro h
      exact ⟨(List.pairwise_cons.mp h).1 b List.mem_cons_self, (List.pairwise_cons.mp h).2⟩
theorem sorted_same : ∀ {a b : List Int}, a.Pairwise (· < ·) → b.Pairwise (· < ·) → (∀ x, x ∈ a ↔ x ∈ b) → a = b
  | [], [], _, _, _ => rfl
  | [], y :: b, _, _, h => absurd ((h y).mpr List.mem_cons_self) (by simp)
  | x :: a, [], _, _, h => absurd ((h x).mp List.mem_cons_self) (by simp)
  | x :: a, y :: b, ha, hb, h => by
    have a1 := List.pairwise_cons.mp ha
    have b1 := List.pairwise_cons.mp hb
    have e : x = y := by
      rcases List.mem_cons.mp ((h x).mp List.mem_cons_self) with e | e
      · exact e
      · rcases List.mem_cons.mp ((h y).mpr List.mem_cons_self) with e2 | e2
        · exact e2.symm
        · have := b1.1 x e
          have := a1.1 y e2
          omega
    subst e
    rw [sorted_same a1.2 b1.2 fun z => ?_]
    constructor
    · intro hz
      rcases List.mem_cons.mp ((h z).mp (List.mem_cons_of_mem _ hz)) with e | e
      · have := a1.1 z hz
        omega
      · exact e
    · intro hz
      rcases List.mem_cons.mp ((h z).mpr (List.mem_cons_of_mem _ hz)) with e | e
      · have := b1.1 z hz
        omega
      · exact e
/-- a list of numbers is its own sorted set just if it rises -/
theorem rises_set {ts : List Nat} {ns : List Int} (hs : ns.Pairwise (· < ·)) (hm : ∀ k : Int, k ∈ ns ↔ k ∈ ts.map Int.ofNat) : ts.map Int.ofNat = ns ↔ rises ts = true := by
  rw [rises_iff]
  have hp : (ts.map Int.ofNat).Pairwise (· < ·) ↔ ts.Pairwise (· < ·) := by
    rw [List.pairwise_map]
    constructor <;> intro h <;> refine h.imp fun {a b} q => ?_
    · exact Int.ofNat_lt.mp q
    · exact Int.ofNat_lt.mpr q
  rw [← hp]
  constructor
  · intro e
    rw [e]
    exact hs
  · intro h
    exact sorted_same h hs fun x => (hm x).symm
end Vf

set_option maxRecDepth 100000
set_option maxHeartbeats 4000000
namespace Vf
open PySem PySem.Spec PyProof.Rows L2
theorem contains_iff {x y : Str} : Txt.contains x y = true ↔ ∃ a b : List Nat, TL.tl x = a ++ (TL.tl y ++ b) := by
  unfold Txt.contains
  rw [PySem.StrLaws.found_iff]
  constructor
  · rintro ⟨i, h1, h2⟩
    rw [PySem.StrLaws.subAt_eq, beq_iff_eq] at h2
    refine ⟨(TL.tl x).take i, ((TL.tl x).drop i).drop y.length, ?_⟩
    have h3 : ((TL.tl x).drop i).take y.length = TL.tl y := h2
    rw [← h3, List.take_append_drop, List.take_append_drop]
  · rintro ⟨a, b, e⟩
    refine ⟨a.length, ?_, ?_⟩
    · rw [TL.len_tl, TL.len_tl, e]
      simp only [List.length_append]
      omega
    · rw [PySem.StrLaws.subAt_eq, beq_iff_eq]
      show ((TL.tl x).drop a.length).take y.length = TL.tl y
      rw [e, List.drop_left, TL.len_tl, List.take_left]
/-- y in x, both texts -/
def rInT : R2 := fun x y H Q => ∃ a b : Str, x = .str a ∧ y = .str b ∧ Q (.bl (Txt.contains b a)) H
theorem op_inT {X : Cx} : OpR X (compareOp .In) rInT := by
  intro pins s σ H x y v u Q I rx ry h
  obtain ⟨a, b, rfl, rfl, q⟩ := h
  obtain ⟨t, rfl⟩ := rx
  obtain ⟨t', rfl⟩ := ry
  exact PyProof.Rows.in_str ⟨.bl (Txt.contains b a), H, I, rfl, q⟩
end Vf

set_option maxRecDepth 100000
set_option maxHeartbeats 8000000
namespace Vf
open PySem PySem.Spec PyProof.Rows L2
/-- cells with sizes, as a dict -/
def cellKv (cs : List (Str × Nat)) : List (Key × V) := cs.map fun p => (Sum.inr p.1, V.int (p.2 : Int))
structure GoodCs (cs : List (Str × Nat)) : Prop where
  some : cs ≠ []
  few : cs.length ≤ 6
  name : ∀ p ∈ cs, isNameT p.1 = true
  size : ∀ p ∈ cs, 1 ≤ p.2 ∧ p.2 ≤ 8
  nd : (cs.map Prod.fst).Nodup
section
variable {P : Program} {w : World} {K : PySem.W.Frag} {mg : Str → Option Value} {base : Heap}
def sp_is_int : Sp := fun vs H Q _ => ∃ v : Int, vs = [.int v] ∧ Q (.bl true) H
theorem ok_is_int {f : Addr} {fd : FuncData} (F : Fun K "is_integer" "is_integer" s_is_integer f fd) (T : Txt0 K mg) : FnOk P w K mg base CX0 1 f fd p_is_integer sp_is_int := by
  refine F.ok sc_is_integer (fun vs H Q E h => ?_) (fun cdv A outer s H vs Q E hr h => ?_)
  · obtain ⟨v, rfl, _⟩ := h
    rfl
  · obtain ⟨v, rfl, k⟩ := h
    refine ⟨_, pss_one (ps_ret (pe_and (ta := tCB (rIsi K) (tCons (tVar 0) (tCons (tC (.ty "int")) tNil))) (pe_callB call_isi (by rfl) T.isinstance boot_isinstance (pa_cons (pv 0) (pa_cons (pe_bltn (by rfl) T.int (by decide +kernel) (v := .ty "int") rfl) pa_nil)))
        (pe_one (pe_not (ta := tCB (rIsi K) (tCons (tVar 0) (tCons (tC (.ty "bool")) tNil))) (pe_callB call_isi (by rfl) T.isinstance boot_isinstance (pa_cons (pv 0) (pa_cons (pe_bltn (by rfl) T.bool (by decide +kernel) (v := .ty "bool") rfl) pa_nil))))))), ?_⟩
    refine ⟨_, rfl, _, _, _, _, true, rfl, .ty _, .base (.int _), kit_ty (by decide +kernel), true, rfl, iteT ?_⟩
    exact ⟨_, rfl, _, _, _, _, false, rfl, .ty _, .base (.int _), kit_ty (by decide +kernel), _, rfl, k⟩
def sp_within : Sp := fun vs H Q _ => ∃ v lo hi : Int, vs = [.int v, .int lo, .int hi] ∧ Q (.bl (decide (lo ≤ v) && decide (v ≤ hi))) H
theorem ok_within {f : Addr} {fd : FuncData} (F : Fun K "is_integer_within" "is_integer_within" s_is_integer_within f fd) (GI : OkF P w K mg base CX0 "is_integer" p_is_integer 1 sp_is_int) : FnOk P w K mg base CX0 2 f fd p_is_integer_within sp_within := by
  refine F.ok sc_is_integer_within (fun vs H Q E h => ?_) (fun cdv A outer s H vs Q E hr h => ?_)
  · obtain ⟨v, lo, hi, rfl, _⟩ := h
    rfl
  · obtain ⟨v, lo, hi, rfl, k⟩ := h
    refine ⟨_, pss_one (ps_ret (pe_and (ta := tCall sp_is_int [] E0 (tCons (tVar 0) tNil)) (pe_fn GI hr rfl pass0 (pa_cons (pv 0) pa_nil)) (pe_one (pe_chain op_le op_le (pv 1) (pv 0) (pv 2))))), ?_⟩
    refine ⟨_, rfl, v, rfl, true, rfl, iteT ⟨_, rfl, _, rfl, lo, v, rfl, rfl, decide (lo ≤ v), rfl, ?_⟩⟩
    by_cases h1 : lo ≤ v
    · rw [decide_eq_true h1] at k ⊢
      rw [Bool.true_and] at k
      exact iteT ⟨_, rfl, _, _, rfl, rfl, k⟩
    · rw [decide_eq_false h1] at k ⊢
      rw [Bool.false_and] at k
      exact iteF k
def sp_check_room : Sp := fun vs H Q _ => ∃ r : Nat, vs = [.int (r : Int)] ∧ 1 ≤ r ∧ r ≤ 32 ∧ Q .non H
theorem ok_check_room {f : Addr} {fd : FuncData} (F : Fun K "_check_room" "_check_room" s_check_room f fd) (T : Txt0 K mg) (GI : OkF P w K mg base CX0 "is_integer_within" p_is_integer_within 2 sp_within) : FnOk P w K mg base CX0 3 f fd p_check_room sp_check_room := by
  refine F.ok sc_check_room (fun vs H Q E h => ?_) (fun cdv A outer s H vs Q E hr h => ?_)
  · obtain ⟨r, rfl, _⟩ := h
    rfl
  · obtain ⟨r, rfl, h1, h2, k⟩ := h
    obtain ⟨t, er⟩ := T.room
    refine ⟨_, pss_one (ps_if (pt_not (pt_val (pe_fn GI hr rfl pass0 (pa_cons (pv 0) (pa_cons pe_int (pa_cons (pe_glob (v := .int 32) rfl er ⟨_, rfl⟩) pa_nil)))))) (pss_one ps_never) pss_nil), ?_⟩
    refine ⟨_, rfl, (r : Int), 1, 32, rfl, _, rfl, ?_⟩
    rw [decide_eq_true (p := (1 : Int) ≤ r) (by omega), decide_eq_true (p := (r : Int) ≤ 32) (by omega)]
    exact iteF k
end
end Vf

set_option maxRecDepth 100000
set_option maxHeartbeats 8000000
namespace Vf
open PySem PySem.Spec PyProof.Rows L2
def sizeOf? (cs : List (Str × Nat)) (z : Str) : Option Nat := (cs.find? fun p => decide (p.1 = z)).map (·.2)
def sizeOfD (cs : List (Str × Nat)) (z : Str) : Nat := (sizeOf? cs z).getD 0
theorem valV_cells {cs : List (Str × Nat)} {z : Str} : valV (cellKv cs) (Sum.inr z) = (sizeOf? cs z).map fun (k : Nat) => V.int (k : Int) := by
  unfold cellKv sizeOf?
  induction cs with
  | nil => rfl
  | cons p l ih =>
    rw [List.map_cons, List.find?_cons]
    by_cases h : p.1 = z
    · rw [decide_eq_true h, valV_pos (by rw [h])]
      rfl
    · rw [decide_eq_false h, valV_neg (fun e => h (Sum.inr.inj e)), ih]
theorem size_some {cs : List (Str × Nat)} {z : Str} (h : z ∈ cs.map Prod.fst) : sizeOf? cs z = some (sizeOfD cs z) := by
  unfold sizeOfD
  cases e : sizeOf? cs z with
  | some k => rfl
  | none =>
    unfold sizeOf? at e
    rw [Option.map_eq_none_iff, List.find?_eq_none] at e
    obtain ⟨p, hp, rfl⟩ := List.mem_map.mp h
    exact absurd (decide_eq_true rfl) (e p hp)
theorem size_le {cs : List (Str × Nat)} (g : GoodCs cs) (z : Str) : sizeOfD cs z ≤ 8 := by
  unfold sizeOfD sizeOf?
  cases e : cs.find? fun p => decide (p.1 = z) with
  | none => simp
  | some p => exact (g.size p (List.mem_of_find?_eq_some e)).2
def total (cs : List (Str × Nat)) (ws : List Str) : Nat := (ws.map (sizeOfD cs)).sum
section
variable {P : Program} {w : World} {K : PySem.W.Frag} {mg : Str → Option Value} {base : Heap}
def sp_filled (K : PySem.W.Frag) : Sp := fun vs H Q _ => ∃ (d l : Addr) (cs : List (Str × Nat)) (ws : List Str), vs = [.ref d, .ref l] ∧ H d = some (.dK (cellKv cs)) ∧ SqL K H l (ws.map V.str) ∧ ws.length ≤ 1000 ∧ (∀ z ∈ ws, z ∈ cs.map Prod.fst) ∧ ∀ H', Same H H' → Q (.int (total cs ws : Nat)) H'
theorem ok_filled {f : Addr} {fd : FuncData} (F : Fun K "_filled" "_filled" s_filled f fd) (T : Txt0 K mg) : FnOk P w K mg base CX0 1 f fd p_filled (sp_filled K) := by
  refine F.ok sc_filled (fun vs H Q E h => ?_) (fun cdv A outer s H vs Q E hr h => ?_)
  · obtain ⟨d, l, cs, ws, rfl, _⟩ := h
    rfl
  · obtain ⟨d, l, cs, ws, rfl, hd, hl, few, hin, k⟩ := h
    refine ⟨_, pss_one (ps_ret (pe_callB (cr_sum rfl) (by rfl) T.sum (by decide +kernel) (pa_cons (pe_lc (own := [("name", 2)]) (g := gName 2) (tt := tYes) rfl sc_filled.nd (pi_list (pv 1)) (blkOk_by (N := n_filled) (sc := defScope s_filled) (by decide +kernel))
        (fun _ _ _ _ _ => pg_name (i := 2) sc_filled.nd rfl (Or.inl rfl)) (fun _ _ _ _ _ => pts_nil) (fun _ _ _ _ _ => pe_dget (hu_of hr) (pv 0) (pv 2) (fun _ _ => rfl))) pa_nil))), ?_⟩
    refine ⟨_, rfl, l, rfl, ⟨_, hl⟩, fun D hD => lc_mp ws (walk_list (K := K) (a := l) (xs := ws.map V.str) |> fun z => by rw [List.length_map] at z; exact z) hD (fun z => .int (sizeOfD cs z : Nat)) (by omega) (fun H5 s5 => ?_) ?_ ?_⟩
    · rcases hl with (h | ⟨o, h⟩) | h
      · exact .inl (.inl (s5 _ _ h))
      · exact .inl (.inr ⟨o, s5 _ _ h⟩)
      · exact .inr h
    · rintro j z x H2 H3 hj s2 ⟨rfl, hx⟩ R hR
      rw [List.getElem?_map, hj] at hx
      obtain rfl : V.str z = x := Option.some.inj hx
      have hz := size_some (hin z (List.mem_of_getElem? hj))
      have gg := DGet.k (k := Sum.inr z) (s2 _ _ hd)
      rw [valV_cells, hz] at gg
      exact ⟨rfl, _, rfl, _, rfl, d, _, rfl, gg, hR _ (Same.refl _)⟩
    · intro H2 s2 hL
      refine ⟨D, ws.map fun z => ((sizeOfD cs z : Nat) : Int), rfl, SqL.of (by rw [hL, List.map_map]; rfl), ?_⟩
      have e : (ws.map fun z => ((sizeOfD cs z : Nat) : Int)).sum = ((total cs ws : Nat) : Int) := by
        unfold total
        clear hin hl few k hL
        induction ws with
        | nil => rfl
        | cons z r ih =>
          rw [List.map_cons, List.map_cons, List.sum_cons, List.sum_cons, ih]
          omega
      rw [e]
      exact k _ s2
end
end Vf

set_option maxRecDepth 100000
set_option maxHeartbeats 8000000
namespace Vf
open PySem PySem.Spec PyProof.Rows L2
section
variable {P : Program} {w : World} {K : PySem.W.Frag} {mg : Str → Option Value} {base : Heap}
def sp_is_line : Sp := fun vs H Q _ => ∃ (d l : Addr) (cs : List (Str × Nat)) (r : Nat) (ws : List Str), vs = [.ref d, .int (r : Int), .ref l] ∧ H d = some (.dK (cellKv cs)) ∧ H l = some (.lst (ws.map V.str)) ∧ ws ≠ [] ∧ ws.length ≤ 1000 ∧ (∀ z ∈ ws, z ∈ cs.map Prod.fst) ∧
  ∀ H', Same H H' → Q (.bl (decide (total cs ws ≤ r))) H'
theorem ok_is_line {f : Addr} {fd : FuncData} (F : Fun K "_is_line" "_is_line" s_is_line f fd) (T : Txt0 K mg) (GF : OkF P w K mg base CX0 "_filled" p_filled 1 (sp_filled K)) : FnOk P w K mg base CX0 2 f fd p_is_line sp_is_line := by
  refine F.ok sc_is_line (fun vs H Q E h => ?_) (fun cdv A outer s H vs Q E hr h => ?_)
  · obtain ⟨d, l, cs, r, ws, rfl, _⟩ := h
    rfl
  · obtain ⟨d, l, cs, r, ws, rfl, hd, hl, hne, few, hin, k⟩ := h
    refine ⟨_, pss_cons (ps_if (PW.pt (pw_or (pt_not (pt_val (pe_callB call_isi (by rfl) T.isinstance boot_isinstance (pa_cons (pv 2) (pa_cons (pe_bltn (by rfl) T.list (by decide +kernel) (v := .ty "list") rfl) pa_nil)))))
        (pw_or1 (pt_cmpR op_eq (pe_callB call_len_seq (by rfl) T.len PySem.boot_len (pa_cons (pv 2) pa_nil)) pe_int (nomark _))))) (pss_one ps_never) pss_nil)
      (pss_cons (ps_if (pt_not (pt_val (pe_callB (cr_all rfl) (by rfl) T.all (by decide +kernel) (pa_cons (pe_lc (own := [("name", 3)]) (g := gName 3) (tt := tYes) rfl sc_is_line.nd (pi_list (pv 2)) (blkOk_by (N := n_is_line) (sc := defScope s_is_line) (by decide +kernel))
          (fun _ _ _ _ _ => pg_name (i := 3) sc_is_line.nd rfl (Or.inl rfl)) (fun _ _ _ _ _ => pts_nil)
          (fun _ _ _ _ _ => pe_and (ta := tCB (rIsi K) (tCons (tVar 3) (tCons (tC (.ty "str")) tNil))) (pe_callB call_isi (by rfl) T.isinstance boot_isinstance (pa_cons (pv 3) (pa_cons (pe_bltn (by rfl) T.str boot_str (v := .ty "str") rfl) pa_nil))) (pe_one (pe_cmp (pc_din (hu_of hr) (pv 3) (pv 0)))))) pa_nil)))) (pss_one ps_never) pss_nil)
      (pss_one (ps_ret (pe_cmpR op_le (pe_fn GF hr rfl pass0 (pa_cons (pv 0) (pa_cons (pv 2) pa_nil))) (pv 1) (nomark _))))), ?_⟩
    refine ⟨_, rfl, _, _, _, _, true, rfl, .ty _, .base (.lst hl), kit_ty (by decide +kernel), _, rfl, iteF ⟨_, rfl, l, _, rfl, .inl (SqL.of hl), rfl, _, rfl, ?_⟩⟩
    have hlen := List.length_pos_iff.mpr hne
    rw [List.length_map, decide_eq_false (p := V.int ((ws.length : Nat) : Int) = V.int 0) (fun e => by have := V.int.inj e; omega)]
    refine iteF ⟨_, rfl, l, rfl, ⟨_, SqL.of hl⟩, fun D hD => lc_mp ws (walk_list (K := K) (a := l) (xs := ws.map V.str) |> fun z => by rw [List.length_map] at z; exact z) hD (fun _ => .bl true) (by omega) (fun H5 s5 => SqL.of (s5 _ _ hl)) ?_ ?_⟩
    · rintro j z x H2 H3 hj s2 ⟨rfl, hx⟩ R hR
      rw [List.getElem?_map, hj] at hx
      obtain rfl : V.str z = x := Option.some.inj hx
      have gg := DGet.k (k := Sum.inr z) (s2 _ _ hd)
      rw [valV_cells, size_some (hin z (List.mem_of_getElem? hj))] at gg
      exact ⟨rfl, _, rfl, _, _, _, _, true, rfl, .ty _, .base (.str _), kit_ty (by decide +kernel), true, rfl, iteT ⟨_, rfl, _, rfl, d, _, rfl, gg, hR _ (Same.refl _)⟩⟩
    · intro H2 s2 hL
      refine ⟨D, ws.map fun _ => true, rfl, SqL.of (by rw [hL, List.map_map]; rfl), _, rfl, ?_⟩
      have e : (ws.map fun _ => true).all id = true := by simp
      rw [e]
      refine iteF ⟨_, rfl, _, rfl, d, l, cs, ws, rfl, s2 _ _ hd, SqL.of (s2 _ _ hl), few, hin, fun H3 s3 => ⟨_, rfl, _, _, rfl, rfl, ?_⟩⟩
      have e2 : decide ((total cs ws : Int) ≤ (r : Int)) = decide (total cs ws ≤ r) := decide_eq_decide.mpr Int.ofNat_le
      show Q (.bl (decide ((total cs ws : Int) ≤ (r : Int)))) H3
      rw [e2]
      exact k H3 (s2.trans s3)
end
end Vf

set_option maxRecDepth 100000
set_option maxHeartbeats 8000000
namespace Vf
open PySem PySem.Spec PyProof.Rows L2
/-- behind a dict that was locked and is let go -/
theorem unlock_same {H H' : Hp} {d : Addr} {o : Obj} {u : HO} (hd : H d = some u) (s : Same (upd H d (.frz o u)) H') : Same H (upd H' d u) := fun b ob e => by
  by_cases h : b = d
  · rw [h, hd] at e
    rw [h, upd_same]
    exact e
  · rw [upd_ne h]
    exact s b ob (by rw [upd_ne h]; exact e)
theorem cell_get {cs : List (Str × Nat)} {i : Nat} (h : i < (cellKv cs).length) : ∃ p, cs[i]? = some p ∧ (cellKv cs)[i]? = some (Sum.inr p.1, V.int (p.2 : Int)) := by
  unfold cellKv at h ⊢
  rw [List.length_map] at h
  exact ⟨cs[i], List.getElem?_eq_getElem h, by rw [List.getElem?_map, List.getElem?_eq_getElem h]; rfl⟩
section
variable {P : Program} {w : World} {K : PySem.W.Frag} {mg : Str → Option Value} {base : Heap}
def sp_check_cells : Sp := fun vs H Q _ => ∃ (d : Addr) (cs : List (Str × Nat)), vs = [.ref d] ∧ H d = some (.dK (cellKv cs)) ∧ GoodCs cs ∧ ∀ H', Same H H' → Q .non H'
theorem ok_check_cells {f : Addr} {fd : FuncData} (F : Fun K "_check_cells" "_check_cells" s_check_cells f fd) (T : Txt0 K mg) (GN : OkF P w K mg base CX0 "is_name" p_is_name 1 sp_is_name) (GW : OkF P w K mg base CX0 "is_integer_within" p_is_integer_within 2 sp_within) :
    FnOk P w K mg base CX0 3 f fd p_check_cells sp_check_cells := by
  refine F.ok sc_check_cells (fun vs H Q E h => ?_) (fun cdv A outer s H vs Q E hr h => ?_)
  · obtain ⟨d, cs, rfl, _⟩ := h
    rfl
  · obtain ⟨d, cs, rfl, hd, g, k⟩ := h
    obtain ⟨t6, e6⟩ := T.cells
    obtain ⟨t8, e8⟩ := T.size
    refine ⟨_, pss_cons (ps_if (PW.pt (pw_or (pt_not (pt_val (pe_callB call_isi (by rfl) T.isinstance boot_isinstance (pa_cons (pv 0) (pa_cons (pe_bltn (by rfl) T.dict (by decide +kernel) (v := .ty "dict") rfl) pa_nil)))))
        (pw_or1 (pt_not (pt_chain op_le op_le pe_int (pe_callB call_lenD (by rfl) T.len PySem.boot_len (pa_cons (pv 0) pa_nil)) (pe_glob (v := .int 6) rfl e6 ⟨_, rfl⟩)))))) (pss_one ps_never) pss_nil)
      (pss_one (ps_lock (ps_for PassesOwn.never rfl (pi_items (pv 0)) (pg_tup (by rfl) (pgs_cons (pg_name (i := 1) sc_check_cells.nd rfl (Or.inl rfl)) (pgs_cons (pg_name (i := 2) sc_check_cells.nd rfl (Or.inl rfl)) pgs_nil)))
        (pss_one (ps_if (PW.pt (pw_or (pt_not (pt_val (pe_fn GN (hr.mono (by decide)) rfl pass0 (pa_cons (pv 1) pa_nil))))
          (pw_or1 (pt_not (pt_val (pe_fn GW hr rfl pass0 (pa_cons (pv 2) (pa_cons pe_int (pa_cons (pe_glob (v := .int 8) rfl e8 ⟨_, rfl⟩) pa_nil))))))))) (pss_one ps_never) pss_nil))))), ?_⟩
    have few := g.few
    have some1 := List.length_pos_iff.mpr g.some
    have ln : (cellKv cs).length = cs.length := List.length_map ..
    refine ⟨_, rfl, _, _, _, _, true, rfl, .ty _, .base (.dK hd), kit_ty (by decide +kernel), _, rfl, iteF ?_⟩
    refine ⟨_, rfl, d, _, rfl, hd, 1, ((cellKv cs).length : Int), rfl, rfl, decide ((1 : Int) ≤ ((cellKv cs).length : Int)), rfl, ?_⟩
    rw [decide_eq_true (p := (1 : Int) ≤ ((cellKv cs).length : Int)) (by omega)]
    refine iteT ⟨_, _, rfl, rfl, _, rfl, ?_⟩
    rw [decide_eq_true (p := ((cellKv cs).length : Int) ≤ 6) (by omega)]
    refine iteF ⟨d, _, hd, True.intro, fun o => ?_⟩
    have hz : (upd H d (.frz o (.dK (cellKv cs)))) d = some (.frz o (.dK (cellKv cs))) := upd_same
    refine ⟨_, rfl, d, o, _, rfl, hz, for_it (walk_items (d := d) (o := o) (kvs := cellKv cs)) (fun i σ H' => ∃ v1 v2, σ = [some (.ref d), v1, v2] ∧ Same (upd H d (.frz o (.dK (cellKv cs)))) H') ⟨_, _, rfl, Same.refl _⟩ (fun i σ H' _ ⟨_, _, _, s⟩ => s _ _ hz) ?_ ?_⟩
    · rintro i x σ H1 H2 hi ⟨v1, v2, rfl, s1⟩ ⟨T1, x1, x2, rfl, hT1, rfl, hx1, hx2⟩
      obtain ⟨p, hp, hkv⟩ := cell_get hi
      replace hx1 : ((cellKv cs)[i]?.map fun kv => kV kv.1) = some x1 := hx1
      replace hx2 : ((cellKv cs)[i]?.map Prod.snd) = some x2 := hx2
      rw [hkv] at hx1 hx2
      obtain rfl : V.str p.1 = x1 := Option.some.inj hx1
      obtain rfl : V.int (p.2 : Int) = x2 := Option.some.inj hx2
      have hm := List.mem_of_getElem? hp
      have nm := g.name p hm
      have sz := g.size p hm
      have sT := same_new (o := .tup [.str p.1, .int (p.2 : Int)]) hT1
      refine ⟨T1, _, rfl, SqT.of upd_same, rfl, _, _, rfl, _, _, rfl, rfl, _, rfl, p.1, rfl, (by have := (name_len nm).2; omega), fun H3 s3 => ⟨_, rfl, ?_⟩⟩
      rw [nm]
      refine iteF ⟨_, rfl, (p.2 : Int), 1, 8, rfl, _, rfl, ?_⟩
      rw [decide_eq_true (p := (1 : Int) ≤ (p.2 : Int)) (by omega), decide_eq_true (p := (p.2 : Int) ≤ 8) (by omega)]
      exact iteF ⟨_, _, rfl, (s1.trans sT).trans s3⟩
    · rintro σ H1 ⟨v1, v2, rfl, s1⟩
      exact ⟨s1 _ _ hz, k _ (unlock_same hd s1)⟩
end
end Vf

set_option maxRecDepth 100000
set_option maxHeartbeats 4000000
namespace Vf
open PySem PySem.Spec PyProof.Rows L2
def rSortedD (K : PySem.W.Frag) : List V → Hp → VK → Prop := fun xs H Q => ∃ (a : Addr) (bs : List (V × PyData)), xs = [.ref a] ∧ SqL K H a (bs.map Prod.fst) ∧ bs.length ≤ 1000000 ∧ (∀ b ∈ bs, Dp K H b.1 b.2 ∧ b.2.depth ≤ 64) ∧
  PySem.W.AllAlike (bs.map Prod.snd) ∧ PySem.W.Sortable (bs.map Prod.snd) ∧ ∀ p, H p = none → Q (.ref p) (upd H p (.lst ((bs.mergeSort (PySem.W.dataLe false Prod.snd)).map Prod.fst)))
theorem each_of : ∀ {bs : List (V × PyData)} {its : List Value}, Vals (bs.map Prod.fst) its → PySem.W.EachIs (fun v (b : V × PyData) => RelV b.1 v) its bs
  | [], _, h => by
    cases h
    exact .nil
  | b :: bs, _, h => by
    cases h with
    | cons h1 h2 => exact .cons h1 (each_of h2)
theorem vals_each : ∀ {out : List Value} {bs : List (V × PyData)}, PySem.W.EachIs (fun v (b : V × PyData) => RelV b.1 v) out bs → Vals (bs.map Prod.fst) out
  | _, _, .nil => .nil
  | _, _, .cons h1 h2 => .cons h1 (vals_each h2)
theorem cr_sortedD {X : Cx} {k : Nat} (hr : Room k X.A) : CallR X (.builtin "sorted") (rSortedD X.K) := by
  intro pins s σ H vs us Q I r h
  obtain ⟨a, bs, rfl, hs, few, hd, al, so, q⟩ := h
  obtain ⟨its, rv, hl, _⟩ := I.list hs
  rw [Vals.ref1 r]
  have un := hr.un
  have reads : ∀ {its : List Value} {bs : List (V × PyData)}, (∀ b ∈ bs, Dp X.K H b.1 b.2 ∧ b.2.depth ≤ 64) → PySem.W.EachIs (fun v (b : V × PyData) => RelV b.1 v) its bs → PySem.W.EachIs (fun v (b : V × PyData) => ∃ as, Reads s.heap v b.2 as) its bs := by
    intro its bs hd e
    induction e with
    | nil => exact .nil
    | cons h1 _ ih => exact .cons (Dp.reads I _ _ _ (hd _ List.mem_cons_self).1 h1) (ih fun b hb => hd b (List.mem_cons_of_mem _ hb))
  have e := each_of rv
  refine PySem.W.sorted_data (enc := Prod.snd) hl.isList e (reads hd e) al so (by rw [sizeLine_eq]; omega) (fun b hb => by have := (hd b hb).2; omega) fun out hlen eo => ?_
  obtain ⟨ep, here⟩ := PyProof.Rows.sortedAll_at s.heap its out.toArray
  have short : ((bs.mergeSort (PySem.W.dataLe false Prod.snd)).map Prod.fst).length ≤ sizeLine := by
    rw [List.length_map, List.length_mergeSort, sizeLine_eq]
    omega
  have back := vals_each eo
  refine ⟨.ref _, upd H (s.heap.objs.size + 1) (.lst ((bs.mergeSort (PySem.W.dataLe false Prod.snd)).map Prod.fst)), I.laid (t' := s.toks) (fun _ _ => PyProof.Rows.sortedAll_old) (Nat.le_succ _) ⟨short, out, ep, back, ?_⟩, rfl, q _ (I.hok.fresh (Nat.le_succ _))⟩
  simpa using here
end Vf

set_option maxRecDepth 100000
set_option maxHeartbeats 4000000
namespace Vf
open PySem PySem.Spec PyProof.Rows L2
def leS (a b : Str) : Bool := !ltCps b.cps.toList a.cps.toList
theorem leS_iff {a b : Str} : leS a b = true ↔ ¬ b.cps.toList < a.cps.toList := by
  unfold leS
  rw [ltCps_eq]
  simp
theorem str_eq {a b : Str} (h : a.cps.toList = b.cps.toList) : a = b := by
  cases a with | mk x => cases b with | mk y =>
    have : x = y := Array.toList_inj.mp h
    rw [this]
theorem leS_trans (a b c : Str) (h1 : leS a b = true) (h2 : leS b c = true) : leS a c = true := by
  rw [leS_iff] at h1 h2 ⊢
  exact List.le_trans (l₁ := a.cps.toList) h1 h2
theorem leS_total (a b : Str) : (leS a b || leS b a) = true := by
  rcases List.le_total (l₁ := a.cps.toList) (l₂ := b.cps.toList) with h | h
  · rw [leS_iff.mpr h]; rfl
  · rw [leS_iff.mpr h, Bool.or_true]
theorem leS_anti {a b : Str} (h1 : leS a b = true) (h2 : leS b a = true) : a = b := by
  rw [leS_iff] at h1 h2
  exact str_eq (List.le_antisymm h1 h2)
def srt (l : List Str) : List Str := l.mergeSort leS
theorem srt_pw (l : List Str) : (srt l).Pairwise (fun a b => leS a b = true) := List.pairwise_mergeSort leS_trans leS_total l
theorem srt_perm (l : List Str) : (srt l).Perm l := List.mergeSort_perm l leS
theorem srt_uniq {a b : List Str} (ha : a.Pairwise (fun a b => leS a b = true)) (hb : b.Pairwise (fun a b => leS a b = true)) (p : a.Perm b) : a = b :=
  List.Perm.eq_of_pairwise (le := fun a b => leS a b = true) (fun _ _ _ _ h1 h2 => leS_anti h1 h2) ha hb p
theorem pw_rising : ∀ (p : Str) (l : List Str), risingS p l = true → (p :: l).Pairwise (fun a b => leS a b = true)
  | p, [], _ => List.pairwise_cons.mpr ⟨(fun _ h => nomatch h), List.Pairwise.nil⟩
  | p, x :: r, h => by
    have h' : (!ltCps x.cps.toList p.cps.toList && risingS x r) = true := h
    rw [Bool.and_eq_true] at h'
    have ih := pw_rising x r h'.2
    refine List.pairwise_cons.mpr ⟨fun y hy => ?_, ih⟩
    rcases List.mem_cons.mp hy with rfl | hy
    · exact h'.1
    · exact leS_trans _ _ _ h'.1 ((List.pairwise_cons.mp ih).1 y hy)
theorem pw_sortedS {l : List Str} (h : sortedS l = true) : l.Pairwise (fun a b => leS a b = true) := by
  cases l with
  | nil => exact .nil
  | cons x r => exact pw_rising x r h
theorem srt_of {ys xs : List Str} (p : ys.Perm xs) (h : sortedS ys = true) : ys = srt xs := srt_uniq (pw_sortedS h) (srt_pw xs) (p.trans (srt_perm xs).symm)
theorem srt_same {a b : List Str} (p : a.Perm b) : srt a = srt b := srt_uniq (srt_pw a) (srt_pw b) ((srt_perm a).trans (p.trans (srt_perm b).symm))
theorem srt_srt (a : List Str) : srt (srt a) = srt a := srt_same (srt_perm a)
theorem srt_one (z : Str) : srt [z] = [z] := List.mergeSort_singleton z
theorem dp_strs {K : PySem.W.Frag} {H : Hp} : ∀ ws : List Str, DpAll K H (ws.map V.str) (ws.map PyData.str)
  | [] => .nil
  | z :: ws => .cons (.str z) (dp_strs ws)
theorem plain_strs : ∀ {ws : List Str}, (∀ z ∈ ws, PyData.strOk z = true) → plainAll (ws.map PyData.str) = true
  | [], _ => rfl
  | z :: ws, h => by
    simp only [List.map_cons, plainAll, plainD, Bool.and_eq_true]
    exact ⟨h z List.mem_cons_self, plain_strs fun y hy => h y (List.mem_cons_of_mem _ hy)⟩
theorem depth_strs : ∀ ws : List Str, PyData.depthAll (ws.map PyData.str) = 0
  | [] => rfl
  | z :: ws => by simp only [List.map_cons, PyData.depthAll, PyData.depth, depth_strs ws, Nat.max_self]
theorem shaped_strs {ws : List Str} (h : ∀ z ∈ ws, PyData.strOk z = true) : SeqAt.shaped (.list (ws.map PyData.str)) = true :=
  shaped_of (by simp only [plainD, plain_strs h]) (by simp only [PyData.depth, depth_strs]; decide)
theorem eqv_self {d : PyData} (h : plainD d = true) : PyData.eqv d d = true := (eqv_iff d d h h).mpr rfl
theorem ok_str {z : Str} (h2 : ∀ c ∈ TL.tl z, c < 1114112) : PyData.strOk z = true := by
  unfold PyData.strOk
  rw [← Array.all_toList, List.all_eq_true]
  intro c hc
  exact decide_eq_true (h2 c hc)
theorem ok_name {z : Str} (h : isNameT z = true) : PyData.strOk z = true := ok_str fun c hc => by
  have := name_signs h c hc
  omega
end Vf

set_option maxRecDepth 100000
set_option maxHeartbeats 8000000
namespace Vf
open PySem PySem.Spec PyProof.Rows L2
theorem cell_keys (cs : List (Str × Nat)) : (cellKv cs).map (·.1) = (cs.map Prod.fst).map Sum.inr := by
  unfold cellKv
  rw [List.map_map, List.map_map]
  rfl
theorem flat_len {α : Type} {ps : List (α × List Str)} (h : ∀ p ∈ ps, p.2 ≠ []) : ps.length ≤ (ps.flatMap Prod.snd).length := by
  induction ps with
  | nil => simp
  | cons p r ih =>
    have h1 := List.length_pos_iff.mpr (h p List.mem_cons_self)
    have h2 := ih fun q hq => h q (List.mem_cons_of_mem _ hq)
    rw [List.flatMap_cons, List.length_append, List.length_cons]
    omega
theorem flat_part {α : Type} {ps : List (α × List Str)} {p : α × List Str} (h : p ∈ ps) : p.2.length ≤ (ps.flatMap Prod.snd).length := by
  induction ps with
  | nil => cases h
  | cons q r ih =>
    rw [List.flatMap_cons, List.length_append]
    rcases List.mem_cons.mp h with rfl | h
    · omega
    · have := ih h
      omega
section
variable {P : Program} {w : World} {K : PySem.W.Frag} {mg : Str → Option Value} {base : Heap}
/-- lines as they are handed in -/
structure InLines (H : Hp) (l : Addr) (cs : List (Str × Nat)) (r : Nat) (ps : List (Addr × List Str)) : Prop where
  at_ : H l = some (.lst (ps.map fun p => V.ref p.1))
  each : ∀ p ∈ ps, H p.1 = some (.lst (p.2.map V.str)) ∧ p.2 ≠ [] ∧ total cs p.2 ≤ r
  perm : (ps.flatMap Prod.snd).Perm (cs.map Prod.fst)
theorem InLines.same {H H' : Hp} {l : Addr} {cs : List (Str × Nat)} {r : Nat} {ps : List (Addr × List Str)} (h : InLines H l cs r ps) (s : Same H H') : InLines H' l cs r ps :=
  ⟨s _ _ h.at_, fun p hp => ⟨s _ _ (h.each p hp).1, (h.each p hp).2⟩, h.perm⟩
theorem InLines.len {H : Hp} {l : Addr} {cs : List (Str × Nat)} {r : Nat} {ps : List (Addr × List Str)} (h : InLines H l cs r ps) (g : GoodCs cs) : (ps.flatMap Prod.snd).length ≤ 6 := by
  have := h.perm.length_eq
  rw [List.length_map] at this
  have := g.few
  omega
def sp_are_lines : Sp := fun vs H Q _ => ∃ (d l : Addr) (cs : List (Str × Nat)) (r : Nat) (ps : List (Addr × List Str)), vs = [.ref d, .int (r : Int), .ref l] ∧ H d = some (.dK (cellKv cs)) ∧ GoodCs cs ∧ InLines H l cs r ps ∧ ∀ H', Same H H' → Q (.bl true) H'
theorem ok_are_lines {f : Addr} {fd : FuncData} (F : Fun K "_are_lines" "_are_lines" s_are_lines f fd) (T : Txt0 K mg) (GL : OkF P w K mg base CX0 "_is_line" p_is_line 2 sp_is_line) : FnOk P w K mg base CX0 3 f fd p_are_lines sp_are_lines := by
  refine F.ok sc_are_lines (fun vs H Q E h => ?_) (fun cdv A outer s H vs Q E hr h => ?_)
  · obtain ⟨d, l, cs, r, ps, rfl, _⟩ := h
    rfl
  · obtain ⟨d, l, cs, r, ps, rfl, hd, g, il, k⟩ := h
    refine ⟨_, pss_cons (ps_if (PW.pt (pw_or (pt_not (pt_val (pe_callB call_isi (by rfl) T.isinstance boot_isinstance (pa_cons (pv 2) (pa_cons (pe_bltn (by rfl) T.list (by decide +kernel) (v := .ty "list") rfl) pa_nil)))))
        (pw_or1 (pt_not (pt_val (pe_callB (cr_all rfl) (by rfl) T.all (by decide +kernel) (pa_cons (pe_lc (own := [("line", 3)]) (g := gName 3) (tt := tYes) rfl sc_are_lines.nd (pi_list (pv 2)) (blkOk_by (N := n_are_lines) (sc := defScope s_are_lines) (by decide +kernel))
          (fun _ _ _ _ _ => pg_name (i := 3) sc_are_lines.nd rfl (Or.inl rfl)) (fun _ _ _ _ _ => pts_nil)
          (fun _ _ _ _ _ => pe_fn GL hr rfl pass0 (pa_cons (pv 0) (pa_cons (pv 1) (pa_cons (pv 3) pa_nil))))) pa_nil))))))) (pss_one (ps_ret pe_bl)) pss_nil)
      (pss_one (ps_ret (pe_cmpR (op_eqD hr.units) (pe_callB cr_sortedS (by rfl) T.sorted (by decide +kernel) (pa_cons
          (pe_lc2 (own := [("line", 3), ("name", 4)]) (vs1 := [4]) (wi1 := iList K (tVar 3)) (g := gName 3) (g1 := gName 4) (tt := tYes) (tt1 := tYes) rfl sc_are_lines.nd (pi_list (pv 2)) (blkOk_by (N := n_are_lines) (sc := defScope s_are_lines) (by decide +kernel)) (by decide)
            (fun _ _ _ _ _ => pg_name (i := 3) sc_are_lines.nd rfl (Or.inl rfl)) (fun _ _ _ _ _ => pts_nil) (fun _ _ _ _ _ => pi_list (pv 3))
            (fun _ _ _ _ _ => pg_name (i := 4) sc_are_lines.nd rfl (Or.inl rfl)) (fun _ _ _ _ _ => pts_nil) (fun _ _ _ _ _ => pv 4)) pa_nil))
          (pe_callB (call_sortedD rfl) (by rfl) T.sorted (by decide +kernel) (pa_cons (pv 0) pa_nil)) (nomark _)))), ?_⟩
    have l6 := il.len g
    have lp := flat_len fun p hp => (il.each p hp).2.1
    have each : ∀ p ∈ ps, p.2.length ≤ 6 := fun p hp => Nat.le_trans (flat_part hp) l6
    refine ⟨_, rfl, _, _, _, _, true, rfl, .ty _, .base (.lst il.at_), kit_ty (by decide +kernel), _, rfl, iteF ?_⟩
    have wl : ∀ {a : Addr}, Walk (Itl K a) ps.length (fun H => SqL K H a (ps.map fun p => V.ref p.1)) (YAt (ps.map fun p => V.ref p.1)) := fun {a} => (walk_list (K := K) (a := a) (xs := ps.map fun p => V.ref p.1) |> fun z => by rw [List.length_map] at z; exact z)
    refine ⟨_, rfl, l, rfl, ⟨_, SqL.of il.at_⟩, fun D hD => lc_mp ps wl hD (fun _ => .bl true) (by omega) (fun H5 s5 => SqL.of (s5 _ _ il.at_)) ?_ ?_⟩
    · rintro j p x H2 H3 hj s2 ⟨rfl, hx⟩ R hR
      rw [List.getElem?_map, hj] at hx
      obtain rfl : V.ref p.1 = x := Option.some.inj hx
      have hp := List.mem_of_getElem? hj
      obtain ⟨h1, h2, h3⟩ := il.each p hp
      refine ⟨rfl, _, rfl, _, rfl, _, rfl, d, p.1, cs, r, p.2, rfl, s2 _ _ hd, s2 _ _ h1, h2, by have := each p hp; omega, fun z hz => ?_, fun H4 s4 => ?_⟩
      · exact il.perm.mem_iff.mp (List.mem_flatMap.mpr ⟨p, hp, hz⟩)
      · rw [decide_eq_true h3]
        exact hR H4 s4
    · intro H2 s2 hL
      refine ⟨D, ps.map fun _ => true, rfl, SqL.of (by rw [hL, List.map_map]; rfl), _, rfl, ?_⟩
      have e : (ps.map fun _ => true).all id = true := by simp
      rw [e]
      refine iteF ?_
      have il2 := il.same s2
      refine ⟨_, rfl, l, rfl, ⟨_, SqL.of il2.at_⟩, fun D2 hD2 => ⟨fun i m H' => m = ps.length - i ∧ i ≤ ps.length ∧ Same H2 H' ∧ H' D2 = some (.lst (((ps.take i).flatMap Prod.snd).map V.str)), ⟨ps.length, by simp, Nat.zero_le _, same_new hD2, by rw [upd_same]; rfl⟩, ?_⟩⟩
      rintro i m H3 ⟨rfl, hi, s3, e3⟩
      have sq : SqL K H3 l (ps.map fun p => V.ref p.1) := SqL.of (s3 _ _ il2.at_)
      by_cases hlt : i < ps.length
      · have hj : ps[i]? = some ps[i] := List.getElem?_eq_getElem hlt
        generalize ps[i] = p at hj
        have hp := List.mem_of_getElem? hj
        have tk : (ps.take (i + 1)).flatMap Prod.snd = (ps.take i).flatMap Prod.snd ++ p.2 := by
          rw [List.take_add_one, hj, List.flatMap_append]
          simp
        have tl6 : ((ps.take i).flatMap Prod.snd ++ p.2).length ≤ 6 := by
          rw [← tk]
          refine Nat.le_trans ?_ l6
          conv => rhs; rw [← List.take_append_drop (i + 1) ps, List.flatMap_append, List.length_append]
          omega
        refine .inr ⟨wl.goes i H3 hlt sq, fun H' => Same H2 H' ∧ H' D2 = some (.lst (((ps.take (i + 1)).flatMap Prod.snd).map V.str)), fun H' q => ⟨ps.length - (i + 1), by omega, rfl, hlt, q⟩, fun x H4 y => ?_⟩
        obtain ⟨rfl, hx⟩ := wl.yields i H3 x H4 hlt sq y
        rw [List.getElem?_map, hj] at hx
        obtain rfl : V.ref p.1 = x := Option.some.inj hx
        obtain ⟨h1, h2, h3⟩ := il2.each p hp
        have wp : Walk (Itl K p.1) p.2.length (fun H => SqL K H p.1 (p.2.map V.str)) (YAt (p.2.map V.str)) := (walk_list (K := K) (a := p.1) (xs := p.2.map V.str) |> fun z => by rw [List.length_map] at z; exact z)
        refine ⟨rfl, _, rfl, p.1, rfl, ⟨_, SqL.of (s3 _ _ h1)⟩, fun j n H' => n = p.2.length - j ∧ j ≤ p.2.length ∧ Same H2 H' ∧ H' D2 = some (.lst (((ps.take i).flatMap Prod.snd ++ p.2.take j).map V.str)), ⟨p.2.length, by simp, Nat.zero_le _, s3, by rw [e3]; simp⟩, ?_⟩
        rintro j n H5 ⟨rfl, hjl, s5, e5⟩
        have sq5 : SqL K H5 p.1 (p.2.map V.str) := SqL.of (s5 _ _ h1)
        by_cases hl2 : j < p.2.length
        · have hz : p.2[j]? = some p.2[j] := List.getElem?_eq_getElem hl2
          generalize p.2[j] = z at hz
          refine .inr ⟨wp.goes j H5 hl2 sq5, fun H' => Same H2 H' ∧ H' D2 = some (.lst (((ps.take i).flatMap Prod.snd ++ p.2.take (j + 1)).map V.str)), fun H' q => ⟨p.2.length - (j + 1), by omega, rfl, hl2, q⟩, fun x H6 y => ?_⟩
          obtain ⟨rfl, hx⟩ := wp.yields j H5 x H6 hl2 sq5 y
          rw [List.getElem?_map, hz] at hx
          obtain rfl : V.str z = x := Option.some.inj hx
          refine ⟨rfl, _, rfl, _, e5, ?_, same_upd s5 hD2, ?_⟩
          · rw [List.length_map, List.length_append, List.length_take, sizeLine_eq]
            rw [List.length_append] at tl6
            omega
          · rw [upd_same, List.take_add_one, hz, ← List.append_assoc, List.map_append (l₁ := _ ++ _)]
            rfl
        · have e : j = p.2.length := by omega
          subst e
          refine .inl ⟨wp.stops H5 sq5, s5, ?_⟩
          rw [e5, tk, List.take_length]
      · have e : i = ps.length := by omega
        subst e
        rw [List.take_length] at e3
        refine .inl ⟨wl.stops H3 sq, D2, ps.flatMap Prod.snd, rfl, SqL.of e3, by omega, fun ys p4 hy1 hy2 hp4 => ?_⟩
        have s4 : Same H (upd H3 p4 (.lst (ys.map V.str))) := (s2.trans s3).trans (same_new hp4)
        have few := g.few
        refine ⟨_, rfl, d, cellKv cs, cs.map Prod.fst, rfl, .inl (s4 _ _ hd), cell_keys cs, by rw [List.length_map]; omega, fun zs p5 hz1 hz2 hp5 => ?_⟩
        have same : ys = zs := (srt_of hy1 hy2).trans ((srt_same il.perm).trans (srt_of hz1 hz2).symm)
        subst same
        have ok : ∀ z ∈ ys, PyData.strOk z = true := fun z hz => by
          obtain ⟨q, hq, rfl⟩ := List.mem_map.mp (hz1.mem_iff.mp hz)
          exact ok_name (g.name q hq)
        refine ⟨.list (ys.map PyData.str), .list (ys.map PyData.str), .lst (SqL.of (same_new hp5 _ _ upd_same)) (dp_strs _), .lst (SqL.of upd_same) (dp_strs _), shaped_strs ok, shaped_strs ok, ?_⟩
        rw [eqv_self (by simp only [plainD, plain_strs ok])]
        exact k _ (s4.trans (same_new hp5))
end
end Vf

set_option maxRecDepth 100000
set_option maxHeartbeats 4000000
namespace Vf
open PySem PySem.Spec PyProof.Rows L2
def But (p : Addr) (H1 H : Hp) : Prop := ∀ b o, b ≠ p → H1 b = some o → H b = some o
theorem But.refl (p : Addr) (H : Hp) : But p H H := fun _ _ _ e => e
theorem But.then {p : Addr} {H1 H2 H3 : Hp} (a : But p H1 H2) (s : Same H2 H3) : But p H1 H3 := fun b o hb e => s b o (a b o hb e)
theorem But.trans {p : Addr} {H1 H2 H3 : Hp} (a : But p H1 H2) (s : But p H2 H3) : But p H1 H3 := fun b o hb e => s b o hb (a b o hb e)
theorem But.put {p : Addr} {H1 H2 : Hp} {o : HO} (a : But p H1 H2) : But p H1 (upd H2 p o) := fun b u hb e => by rw [upd_ne hb]; exact a b u hb e
theorem Same.but {p : Addr} {H1 H2 : Hp} (s : Same H1 H2) : But p H1 H2 := fun b o _ e => s b o e
theorem But.same {p : Addr} {H0 H1 H2 : Hp} (a : But p H1 H2) (s : Same H0 H1) (h : H0 p = none) : Same H0 H2 := fun b o e => a b o (ne_of_none e h) (s b o e)
section
variable {J : It} {n : Nat} {G : Hp → Prop} {Y : Nat → Hp → V → Hp → Prop}
/-- [.. for .. in ..], each value told by Pr -/
theorem lc_ad {α : Type} (l : List α) (w : Walk J l.length G Y) {g : TG} {te : TE} {vs : List Nat} {σ : L2.St} {H1 : Hp} {D : Addr} {Qd : Hp → Prop} (hD : H1 D = none) (Pr : α → V → Hp → Prop) (hn : l.length < 1000000) (hG : ∀ H, Same H1 H → G H)
    (hs : ∀ i a x H H', l[i]? = some a → Same H1 H → (∃ acc, H D = some (.lst acc)) → Y i H x H' → ∀ R : V → Hp → Prop, (∀ v H4, Same H H4 → (∀ H5, But D H4 H5 → Pr a v H5) → R v H4) →
      g x (wipe σ vs) H' fun σ2 H2 => wipe σ2 vs = wipe σ vs ∧ te σ2 H2 R)
    (hd : ∀ H (xs : List V), Same H1 H → H D = some (.lst xs) → xs.length = l.length → (∀ (i : Nat) (a : α) (v : V), l[i]? = some a → xs[i]? = some v → Pr a v H) → Qd H) :
    ∃ W : Nat → Nat → Hp → Prop, (∃ m, W 0 m (upd H1 D (.lst []))) ∧ ∀ i m H, W i m H →
      (J.stop i H ∧ Qd H) ∨ (J.go i H ∧ ∃ Nx : Hp → Prop, (∀ H', Nx H' → ∃ m', m' < m ∧ W (i + 1) m' H') ∧ ∀ x H', J.yld i H x H' → g x (wipe σ vs) H' fun σ2 H2 => wipe σ2 vs = wipe σ vs ∧ tYes σ2 H2 fun b H3 =>
        if b = true then te σ2 H3 fun y H4 => ∃ acc, H4 D = some (.lst acc) ∧ acc.length < sizeLine ∧ Nx (upd H4 D (.lst (acc ++ [y]))) else Nx H3) := by
  refine ⟨fun i m H => m = l.length - i ∧ i ≤ l.length ∧ Same H1 H ∧ ∃ xs : List V, H D = some (.lst xs) ∧ xs.length = i ∧ ∀ (j : Nat) (a : α) (v : V), l[j]? = some a → xs[j]? = some v → ∀ H5, But D H H5 → Pr a v H5, ⟨l.length, by simp, Nat.zero_le _, same_new hD, [], upd_same, rfl, fun j a v _ h => by simp at h⟩, ?_⟩
  rintro i m H ⟨rfl, hi, s, xs, hH, hxs, hp⟩
  by_cases hlt : i < l.length
  · have ha : l[i]? = some l[i] := List.getElem?_eq_getElem hlt
    refine .inr ⟨w.goes i H hlt (hG H s), fun H' => Same H1 H' ∧ ∃ xs : List V, H' D = some (.lst xs) ∧ xs.length = i + 1 ∧ ∀ (j : Nat) (a : α) (v : V), l[j]? = some a → xs[j]? = some v → ∀ H5, But D H' H5 → Pr a v H5, fun H' p => ⟨l.length - (i + 1), by omega, rfl, hlt, p⟩, fun x H' y => ?_⟩
    have q := hs i _ x H H' ha s ⟨xs, hH⟩ (w.yields i H x H' hlt (hG H s) y) (fun y H4 => ∃ acc, H4 D = some (.lst acc) ∧ acc.length < sizeLine ∧ Same H1 (upd H4 D (.lst (acc ++ [y]))) ∧ ∃ xs : List V, (upd H4 D (.lst (acc ++ [y]))) D = some (.lst xs) ∧ xs.length = i + 1 ∧ ∀ (j : Nat) (a : α) (v : V), l[j]? = some a → xs[j]? = some v → ∀ H5, But D (upd H4 D (.lst (acc ++ [y]))) H5 → Pr a v H5) ?_
    · exact q
    intro v H4 s4 hv
    have e4 := s4 D _ hH
    have b4 : But D H4 (upd H4 D (.lst (xs ++ [v]))) := (But.refl D H4).put
    refine ⟨xs, e4, by rw [sizeLine_eq]; omega, same_upd (s.trans s4) hD, xs ++ [v], upd_same, by rw [List.length_append, hxs]; rfl, fun j a u hj hu H5 b5 => ?_⟩
    by_cases hj' : j < xs.length
    · rw [List.getElem?_append_left hj'] at hu
      exact hp j a u hj hu H5 ((Same.but s4).trans (b4.trans b5))
    · have ej : j = xs.length := by
        have := (List.getElem?_eq_some_iff.mp hu).1
        rw [List.length_append, List.length_singleton] at this
        omega
      subst ej
      rw [List.getElem?_append_right (Nat.le_refl _), Nat.sub_self] at hu
      obtain rfl : v = u := by simpa using hu
      rw [hxs, ha] at hj
      obtain rfl : l[i] = a := Option.some.inj hj
      exact hv H5 (b4.trans b5)
  · have e : i = l.length := by omega
    subst e
    exact .inl ⟨w.stops H (hG H s), hd H xs s hH hxs fun j a v hj hv => hp j a v hj hv H (But.refl D H)⟩
end
def lnD (ws : List Str) : PyData := .tuple (ws.map PyData.str)
def leL (a b : List Str) : Bool := PySem.W.dataLe false lnD a b
def sortL (ls : List (List Str)) : List (List Str) := ls.mergeSort leL
theorem sortL_perm (ls : List (List Str)) : (sortL ls).Perm ls := List.mergeSort_perm ls leL
/-- a tuple of tuples of texts -/
def LinesAt (H : Hp) (t : Addr) (qs : List (Addr × List Str)) : Prop := H t = some (.tup (qs.map fun q => V.ref q.1)) ∧ ∀ q ∈ qs, H q.1 = some (.tup (q.2.map V.str))
theorem LinesAt.same {H H' : Hp} {t : Addr} {qs : List (Addr × List Str)} (h : LinesAt H t qs) (s : Same H H') : LinesAt H' t qs := ⟨s _ _ h.1, fun q hq => s _ _ (h.2 q hq)⟩
theorem alikeAll_strs : ∀ xs ys : List Str, PySem.W.alikeAll (xs.map PyData.str) (ys.map PyData.str) = true
  | [], _ => by rw [List.map_nil, PySem.W.alikeAll]
  | _ :: _, [] => by rw [List.map_cons, List.map_nil, PySem.W.alikeAll]
  | x :: xs, y :: ys => by
    rw [List.map_cons, List.map_cons, PySem.W.alikeAll, alikeAll_strs xs ys, PySem.W.alike]
    rfl
theorem alike_ln (xs ys : List Str) : PySem.W.alike (lnD xs) (lnD ys) = true := by
  unfold lnD
  rw [PySem.W.alike]
  exact alikeAll_strs xs ys
theorem qs_of {H : Hp} : ∀ (ls : List (List Str)) (xs : List V), xs.length = ls.length → (∀ (i : Nat) (ws : List Str) (v : V), ls[i]? = some ws → xs[i]? = some v → ∃ t, v = .ref t ∧ H t = some (.tup (ws.map V.str))) →
    ∃ qs : List (Addr × List Str), xs = qs.map (fun q => V.ref q.1) ∧ qs.map Prod.snd = ls ∧ ∀ q ∈ qs, H q.1 = some (.tup (q.2.map V.str))
  | [], [], _, _ => ⟨[], rfl, rfl, fun _ h => nomatch h⟩
  | [], _ :: _, h, _ => by simp at h
  | _ :: _, [], h, _ => by simp at h
  | ws :: ls, v :: xs, h, hp => by
    obtain ⟨t, rfl, ht⟩ := hp 0 ws v rfl rfl
    obtain ⟨qs, e1, e2, e3⟩ := qs_of ls xs (by simpa using h) fun i a u h1 h2 => hp (i + 1) a u (by simpa using h1) (by simpa using h2)
    refine ⟨(t, ws) :: qs, by rw [e1]; rfl, by rw [← e2]; rfl, fun q hq => ?_⟩
    rcases List.mem_cons.mp hq with rfl | hq
    · exact ht
    · exact e3 q hq
/-- a list of tuples of texts, sorted -/
theorem lines_sorted {K : PySem.W.Frag} {H : Hp} {Q : VK} {D : Addr} {qs : List (Addr × List Str)} (hD : H D = some (.lst (qs.map fun q => V.ref q.1))) (ht : ∀ q ∈ qs, H q.1 = some (.tup (q.2.map V.str))) (few : qs.length ≤ 1000) (ne : ∀ q ∈ qs, q.2 ≠ [])
    (k : ∀ (p : Addr) (rs : List (Addr × List Str)), H p = none → rs.map Prod.snd = sortL (qs.map Prod.snd) → (∀ q ∈ rs, q ∈ qs) → Q (.ref p) (upd H p (.lst (rs.map fun q => V.ref q.1)))) : rSortedD K [.ref D] H Q := by
  refine ⟨D, qs.map (fun q => (V.ref q.1, lnD q.2)), rfl, SqL.of (by rw [hD, List.map_map]; rfl), by rw [List.length_map]; omega, fun b hb => ?_, fun d hd d' hd' => ?_, .inl fun d hd => ?_, fun p hp => ?_⟩
  · obtain ⟨q, hq, rfl⟩ := List.mem_map.mp hb
    exact ⟨.tup (SqT.of (ht q hq)) (dp_strs _), by simp only [lnD, PyData.depth, depth_strs]; decide⟩
  · rw [List.map_map] at hd hd'
    obtain ⟨q, _, rfl⟩ := List.mem_map.mp hd
    obtain ⟨q', _, rfl⟩ := List.mem_map.mp hd'
    exact alike_ln q.2 q'.2
  · rw [List.map_map] at hd
    obtain ⟨q, hq, rfl⟩ := List.mem_map.mp hd
    have := ne q hq
    cases e : q.2 with
    | nil => exact absurd e this
    | cons x r => exact ⟨.str x, r.map PyData.str, by show lnD q.2 = _; rw [e]; rfl⟩
  · have e1 : ((qs.map (fun q => (V.ref q.1, lnD q.2))).mergeSort (PySem.W.dataLe false Prod.snd)) = (qs.mergeSort fun a b => leL a.2 b.2).map (fun q => (V.ref q.1, lnD q.2)) :=
      (List.map_mergeSort (f := fun q : Addr × List Str => (V.ref q.1, lnD q.2)) fun _ _ _ _ => rfl).symm
    have e2 : (qs.mergeSort fun a b => leL a.2 b.2).map Prod.snd = sortL (qs.map Prod.snd) := List.map_mergeSort (f := Prod.snd) fun _ _ _ _ => rfl
    have q := k p (qs.mergeSort fun a b => leL a.2 b.2) hp e2 fun q hq => (List.mergeSort_perm qs _).mem_iff.mp hq
    rw [e1, List.map_map]
    exact q
theorem merge_snoc (xs : List (Key × V)) (p : Key × V) (kvs : List (Key × V)) : mergeK kvs (xs ++ [p]) = putK (mergeK kvs xs) p.1 p.2 := by
  unfold mergeK
  rw [List.foldl_append]
  rfl
theorem val_none {kvs : List (Key × V)} {k : Key} (h : k ∉ kvs.map Prod.fst) : valV kvs k = none := by
  induction kvs with
  | nil => rfl
  | cons p r ih =>
    rw [List.map_cons] at h
    rw [valV_neg (fun e => h (by rw [← e]; exact List.mem_cons_self)), ih fun z => h (List.mem_cons_of_mem _ z)]
theorem val_mem {kvs : List (Key × V)} {k : Key} {v : V} (hn : (kvs.map Prod.fst).Nodup) (h : (k, v) ∈ kvs) : valV kvs k = some v := by
  induction kvs with
  | nil => cases h
  | cons p r ih =>
    rw [List.map_cons, List.nodup_cons] at hn
    rcases List.mem_cons.mp h with rfl | h
    · exact valV_pos rfl
    · rw [valV_neg (fun e => hn.1 (by rw [e]; exact List.mem_map_of_mem (f := Prod.fst) h)), ih hn.2 h]
theorem merge_nodup : ∀ (xs kvs : List (Key × V)), ((kvs ++ xs).map Prod.fst).Nodup → mergeK kvs xs = kvs ++ xs
  | [], kvs, _ => (List.append_nil kvs).symm
  | p :: xs, kvs, h => by
    have e : mergeK kvs (p :: xs) = mergeK (putK kvs p.1 p.2) xs := rfl
    have hk : p.1 ∉ kvs.map Prod.fst := fun z => by
      rw [List.map_append, List.map_cons, List.nodup_append] at h
      exact h.2.2 _ z _ List.mem_cons_self rfl
    rw [e, putK_new _ (val_none hk), merge_nodup xs _ (by rw [List.append_assoc]; exact h), List.append_assoc]
    rfl
end Vf

set_option maxRecDepth 100000
set_option maxHeartbeats 4000000
namespace Vf
open PySem PySem.Spec PyProof.Rows L2
theorem meets_enumT {v : Value} {o : Obj} {H : Heap → Prop} (B : Begins v o H) :
    Meets (Builtin.«enumerate.__new__» ⟨[.type "enumerate", v], []⟩) (fun _ R s => H s.heap ∧
      R (.ok (.ret (.ref (s.heap.push o).objs.size))) { s with heap := (s.heap.push o).push { cls := .type "enumerate", data := .fields #[.none, .bool false, .ref s.heap.objs.size, rawInt 0, .none, .none] } }) :=
  .of_wp fun prog w A R s h => by
    obtain ⟨hp, g, d, tk, os⟩ := s; obtain ⟨h1, h⟩ := h
    have hsub := sub_enumerate
    have q1 : ∀ {A' : Around} {E : Value → Shared → Prop} {Q : Value → Shared → Prop}, Q (.ref hp.objs.size) ⟨hp.push o, g, d, tk, os⟩ → wpAny (model prog w) A' (pyIter v) Q E ⟨hp, g, d, tk, os⟩ :=
      fun q => B.iter prog w _ _ ⟨hp, g, d, tk, os⟩ _ h1 q
    wp_walk using q1
    refine wpAny_stack_any fun st => wpAny_pure ?_
    split
    · rename_i c _ _ _ _ _
      cases (c == Value.type "enumerate")
      · wp_walk using q1
        exact ⟨_, rfl, h⟩
      · wp_walk using q1
        exact ⟨_, rfl, h⟩
    · wp_walk using q1
      exact ⟨_, rfl, h⟩
section
variable {prog : Program} {w : World} {A : Around} {E : Value → Shared → Prop} {s : Shared}
theorem call_enumT {v : Value} {o : Obj} {H : Heap → Prop} {Q : Value → Shared → Prop} (B : Begins v o H) (h1 : H s.heap)
    (h : ∀ h', IsEnum h' (s.heap.objs.size + 1) s.heap.objs.size 0 .none → h'.get? s.heap.objs.size = some o → h'.objs.size = s.heap.objs.size + 2 →
      (∀ b o, s.heap.get? b = some o → h'.get? b = some o) → Q (.ref (s.heap.objs.size + 1)) { s with heap := h' }) :
    wpAny (model prog w) A (call (.type "enumerate") [v]) Q E s := by
  refine callType_new F.called_enumerate (by decide) (F.typeCall_enumerate_1 _) (F.newCall_enumerate_1 _) (fun obj => F.args_object_init_2 obj _) F.entry_enumerate_new
    (meets_enumT B) ⟨h1, ?_⟩
  have hz : (s.heap.push o).objs.size = s.heap.objs.size + 1 := Heap.size_push ..
  show _ ∧ _
  rw [hz]
  have he : IsEnum ((s.heap.push o).push { cls := .type "enumerate", data := .fields #[.none, .bool false, .ref s.heap.objs.size, rawInt 0, .none, .none] }) (s.heap.objs.size + 1) s.heap.objs.size 0 .none := by
    have := Heap.get?_push_size (s.heap.push o) (o := { cls := .type "enumerate", data := .fields #[.none, .bool false, .ref s.heap.objs.size, rawInt 0, .none, .none] }) rfl
    rw [hz] at this; exact this
  refine ⟨⟨_, he, rfl⟩, h _ he (Heap.get?_push_of_some _ (Heap.get?_push_size _ B.free)) (by rw [Heap.size_push, hz]) fun b o x => Heap.get?_push_of_some _ (Heap.get?_push_of_some _ x)⟩
end
/-- the tuple at a, each item in a new pair -/
def IteT (K : PySem.W.Frag) (a : Addr) : It :=
  ⟨fun i H => ∃ (xs : List V) (x : V), SqT K H a xs ∧ xs[i]? = some x, fun i H v H' => ∃ T x, v = .ref T ∧ H T = none ∧ H' = upd H T (.tup [.int (i : Nat), x]) ∧ ∀ xs, SqT K H a xs → xs[i]? = some x, fun i H => ∃ xs : List V, SqT K H a xs ∧ xs.length = i⟩
theorem turn_enumT {P : Program} {w : World} {K : PySem.W.Frag} {elts : List Expr} {kk : Nat} {tpos : Pos} (a e it : Addr) :
    Turn P w K (.Tuple elts kk tpos) (IteT K a) [e, it] e (fun i h => (∃ old, IsEnum h e it ((i : Nat) : Int) old) ∧ h.IsTupleIter it a i ∧ e ≠ it ∧ a ≠ it ∧ a ≠ e) where
  mem := by simp
  obj := fun i h st b hb => by
    obtain ⟨⟨old, he⟩, ⟨o, ho, hc, hd⟩, _⟩ := st
    have e' : b = e ∨ b = it := by simpa using hb
    rcases e' with z | z
    · rw [z]; exact ⟨_, he, fun v q => nomatch q⟩
    · rw [z]; exact ⟨o, ho, fun v q => by rw [hd] at q; cases q⟩
  keep := fun i h h' st k => let ⟨⟨old, he⟩, hi, hne⟩ := st; ⟨⟨old, k e (by simp) _ he⟩, hi.at fun o q => k it (by simp) o q, hne⟩
  item := by
    intro X hP hw hK hc i pins s σ H E I hf st hg
    subst hP hw hK
    obtain ⟨⟨old, he⟩, hit, hne, hai, hae⟩ := st
    obtain ⟨xs, x, hq, hx⟩ := hg
    obtain ⟨its, rv, p, hz⟩ := I.tuple hq
    obtain ⟨u, hu, ru⟩ := rv.get hx
    have hel : e < s.heap.objs.size := Heap.lt_size he
    have hil : it < s.heap.objs.size := by obtain ⟨_, q, _⟩ := hit; exact Heap.lt_size q
    have hlt : i < its.toArray.size := by
      obtain ⟨z, _⟩ := List.getElem?_eq_some_iff.mp hu
      simpa using z
    have p' : s.heap.IsTuple a its.toArray := p
    have hh : X.A.in1.handled = none := I.ok.hd hc
    refine wpAny_pyNext_enum_itemD (Draws.tuple hh it a hai its.toArray) he ⟨hit, p'⟩ hlt hne (by simp [hne, Ne.symm hae]) fun x' h' tk hx' ho hst' hT hsz hk => ?_
    obtain ⟨hit', _⟩ := hst'
    obtain rfl : u = x' := by
      have q : its.toArray[i]? = some x' := hx'
      rw [List.getElem?_toArray, hu] at q
      exact Option.some.inj q
    refine ⟨_, rfl, wpAny_letOwnedTupleGo_enum (s := { s with heap := h', toks := tk + 1 }) ho fun h'' he' sb => ?_⟩
    have hT2 : h''.get? s.heap.objs.size = some { cls := .type "tuple", data := .seq #[.int i tk, u] } := (sb.2 _ (Nat.ne_of_gt hel)).trans hT
    have new : ObjOk X.prog X.w (upd H s.heap.objs.size (.tup [.int (i : Nat), x])) h'' s.heap.objs.size (.tup [.int (i : Nat), x]) :=
      ⟨by show 2 ≤ sizeLine; decide, [.int i tk, u], .cons ⟨_, rfl⟩ (.cons ru .nil), ⟨_, hT2, rfl, _, rfl⟩⟩
    have I1 : Inv X pins σ (upd H s.heap.objs.size (.tup [.int (i : Nat), x])) { s with heap := h'', toks := tk + 1 } :=
      I.turnedNew (ch := [e, it]) (fun b ob hb q => (sb.2 b (fun z => hb (by simp [z]))).trans (hk b ob (fun z => hb (by simp [z])) (fun z => hb (by simp [z])) q)) hf (Nat.le_refl _) new
    refine ⟨.ref s.heap.objs.size, _, I1, rfl, ⟨_, x, rfl, I.hok.fresh (Nat.le_refl _), rfl, fun ys hy => by rw [I.tuple_inj hy hq]; exact hx⟩, ⟨⟨u, ?_⟩, hit'.at fun o q => (sb.2 it (Ne.symm hne)).trans q, hne, hai, hae⟩, fun b hb => ?_⟩
    · have e1 : ((i + 1 : Nat) : Int) = (i : Int) + 1 := by omega
      rw [e1]; exact he'
    · have hb' : b < s.heap.objs.size := by
        have e' : b = e ∨ b = it := by simpa using hb
        rcases e' with z | z
        · rw [z]; exact hel
        · rw [z]; exact hil
      rw [upd_ne (Nat.ne_of_lt hb')]
      exact (hf b hb).1
  done := by
    intro X hP hw hK hc i pins s σ H E I hf st hg
    subst hP hw hK
    obtain ⟨⟨old, he⟩, hit, hne, hai, hae⟩ := st
    obtain ⟨xs, hq, hx⟩ := hg
    obtain ⟨its, rv, p, hz⟩ := I.tuple hq
    obtain ⟨f0, f1, f2, f3, f4, f5⟩ := hf it (by simp)
    have hl := rv.length
    have p' : s.heap.IsTuple a its.toArray := p
    have hi : i = its.toArray.size := by simp; omega
    have hit2 : s.heap.IsTupleIter it a its.toArray.size := hi ▸ hit
    have hh : X.A.in1.handled = none := I.ok.hd hc
    exact wpAny_pyNext_enum_endD (Draws.tuple hh it a hai its.toArray) he ⟨hit2, p'⟩ fun h' eb => ⟨rfl, I.turned (t' := s.toks) (fun b o hb q => eb b o hb q) f0 f1 f3 f4 f5⟩
  self := fun A i s Q E st h => let ⟨⟨_, he⟩, _⟩ := st; wpAny_pyIter_enum he h
def iEnumT (K : PySem.W.Frag) (ta : TA) : TI := fun σ H R => ta σ H fun vs H1 => ∃ a xs, vs = [.ref a] ∧ SqT K H1 a xs ∧ R (IteT K a) H1
theorem pi_enumT {X : Cx} {e : Expr} {ta : TA} {p pos tpos : Pos} {elts : List Expr} {kk : Nat} (hg : Gl X "enumerate") (hm : X.mg "enumerate" = none) (ha : PA X [e] ta) (hs : starEach [e] X.env = [(false, eval e X.env)] := by rfl) :
    PI X (.Tuple elts kk tpos) (.Call (.Name "enumerate" p) [e] [] pos) (iEnumT X.K ta) := by
  refine ⟨fun pins s σ H R I h => ?_⟩
  refine Call_ (ld_blt I hg hm boot_enumerate (PyProof.Rows.callWith_type1 (thn (ha.run pos pins s σ H _ I h) fun us s1 ⟨vs, H1, I1, r1, q1⟩ => ?_) hs rfl))
  obtain ⟨a, xs, ex, hq, q⟩ := q1
  subst ex
  cases r1 with
  | cons r rr =>
    cases rr
    cases r
    obtain ⟨its, rv, p', hz⟩ := I1.tuple hq
    have p2 : s1.heap.IsTuple a its.toArray := p'
    have hal : a < s1.heap.objs.size := by obtain ⟨_, q, _⟩ := p2; exact Heap.lt_size q
    refine call_enumT (begins_tuple a its.toArray) p2 fun h' he hit hsz hk => wpAny_pyIter_enum he ?_
    have I2 : Inv X pins σ H1 { s1 with heap := h' } := I1.kept (t' := s1.toks) hk
    refine ⟨s1.heap.objs.size + 1, [s1.heap.objs.size + 1, s1.heap.objs.size], _, _, H1, rfl, I2, turn_enumT a (s1.heap.objs.size + 1) s1.heap.objs.size, ⟨⟨.none, he⟩, ⟨_, hit, rfl, rfl⟩, Nat.succ_ne_self _, Nat.ne_of_lt hal, fun z => absurd (show s1.heap.objs.size + 1 < s1.heap.objs.size from z ▸ hal) (by omega)⟩, fun b hb => ?_, q⟩
    have e' : b = s1.heap.objs.size + 1 ∨ b = s1.heap.objs.size := by simpa using hb
    have hle : s1.heap.objs.size ≤ b := by
      rcases e' with z | z
      · rw [z]; exact Nat.le_add_right _ _
      · rw [z]; exact Nat.le_refl _
    exact I1.fpOk hle (I1.hok.fresh hle)
theorem walk_enumT {K : PySem.W.Frag} {a : Addr} {xs : List V} : Walk (IteT K a) xs.length (fun H => SqT K H a xs) (YPair (fun i => some (.int (i : Nat))) (fun i => xs[i]?)) := by
  refine ⟨fun i _ hi q => ⟨xs, xs[i], q, by simp [hi]⟩, fun _ q => ⟨xs, q, rfl⟩, fun i H v H' _ q y => ?_⟩
  obtain ⟨T, x, h1, h2, h3, h4⟩ := y
  exact ⟨T, .int (i : Nat), x, h1, h2, h3, rfl, h4 xs q⟩
end Vf

set_option maxRecDepth 100000
set_option maxHeartbeats 4000000
namespace Vf
open PySem PySem.Spec PyProof.Rows L2
theorem sw_dict {kx vx : Expr} {gs : List Comprehension} {scope : Scope} {pos py : Pos} {y : Str} {l : Nat} {env : Env} (hk : env.scope.kind = .function) (hy : env.scope.names.lookup y = some .local)
    (hl : (py.line == pos.line) = true) (ha : (scope.names.any fun (n, k) => n == y && (k == .local || k == .cell)) = false) : swapsWith (.DictComp kx vx gs scope pos) (some (.Name y py)) l env = pure true := by
  have k1 : env.kindOf y = some .local := hy
  have k2 : env.blockKind = .function := by
    unfold Env.blockKind
    rw [hk]
    rfl
  unfold swapsWith
  simp only [k2, k1, ha, Expr.pos, hl]
  rfl
theorem ps_setDc {X : Cx} {i : Nat} {y : Str} {py : Pos} {kx vx tg iter : Expr} {ifs : List Expr} {scope : Scope} {own : List (Str × Nat)} {pos spos : Pos} {wi : TI} {g : TG} {tt : TT} {tk tv : TE} (hc : X.calm = true) (hN : X.N.Nodup)
    (hy : X.N[i]? = some y) (hyl : X.env.scope.names.lookup y = some .local) (hsw : swapsWith (.DictComp kx vx [⟨tg, iter, ifs, 0⟩] scope pos) (some (.Name y py)) spos.line X.env = pure true)
    (hi : PI X tg iter wi) (ok : BlkOk X.N X.env.scope scope own)
    (hg : ∀ (s : Shared) (H : Hp) (C : Addr) (cl : List (Str × Addr)) (fp : List Addr), PG (X.blk s H scope (compEnvC scope cl C X.env) fp) tg g)
    (ht : ∀ (s : Shared) (H : Hp) (C : Addr) (cl : List (Str × Addr)) (fp : List Addr), PTs (X.blk s H scope (compEnvC scope cl C X.env) fp) ifs tt)
    (hk : ∀ (s : Shared) (H : Hp) (C : Addr) (cl : List (Str × Addr)) (fp : List Addr), PE (X.blk s H scope (compEnvC scope cl C X.env) fp) kx tk)
    (he : ∀ (s : Shared) (H : Hp) (C : Addr) (cl : List (Str × Addr)) (fp : List Addr), PE (X.blk s H scope (compEnvC scope cl C X.env) fp) vx tv)
    (hs : ∀ x, foldedSetIterable iter X.env x = pure x := by intro _; rfl) :
    PS X (.Assign [.Name y py] (.DictComp kx vx [⟨tg, iter, ifs, 0⟩] scope pos) spos) (tAsg (tDc wi g tt tk tv (own.map (·.2))) (gName i)) := by
  constructor
  intro pins s σ H D I h
  rw [exec_Assign_Name_used _ _ _ _ hsw]
  refine wpAny_bind (wpAny_standAt (wpAny_bind (show wpAny _ X.A (do
    let _ ← comprehension (.DictComp kx vx [⟨tg, iter, ifs, 0⟩] scope pos) scope X.env (firstIterPos [⟨tg, iter, ifs, 0⟩] pos) newDict false (eval iter X.env) (some (assign (.Name y py) X.env))) _ _ s from ?_)))
  have h' : tDc wi g tt tk tv (own.map (·.2)) σ H (fun x H1 => gName i x σ H1 D.nx) := h
  refine wpAny_bind (thn (dc_core (Qf := fun _ s' => SP X pins D .next s') hc hN I hi ok hg ht hk he hs h' ?_) fun _ s' hq => wpAny_pure (wpAny_pure hq))
  rintro L C s' m H' I' q hn ⟨f0, f1, f2, f3, f4, f5⟩
  refine wpAny_assign_Name (store_ok2 (v := V.ref L) I' hN hy (.inl hyl) rfl ?_ (.inr hyl))
  rintro s2 I2 ⟨a, sb, ha⟩
  have hCa : C ≠ a := by
    rcases ha with z | z
    · exact fun e => f1 (e.trans z)
    · exact fun e => f4 y a z e.symm
  exact ⟨m, hn.sameBut sb hCa, fun h3 sb3 => ⟨_, H', I2.turned (t' := s2.toks) (fun b o hb e => (sb3.2 b hb).trans e) f0 f1 f3 f4 f5, q⟩⟩
end Vf

set_option maxRecDepth 100000
set_option maxHeartbeats 4000000
namespace Vf
open PySem PySem.Spec PyProof.Rows L2
abbrev dc2 (kx vx t0 i0 t1 i1 : Expr) (scope : Scope) (pos : Pos) : Expr := .DictComp kx vx [⟨t0, i0, [], 0⟩, ⟨t1, i1, [], 0⟩] scope pos
section
variable {kx vx t0 i0 t1 i1 : Expr} {scope : Scope} {pos : Pos} {it : Value} {D : Addr} {env : Env}
theorem dc2_outer : compTurn (dc2 kx vx t0 i0 t1 i1 scope pos) 0 it (.ref D) env = (standAt i0.pos >>= fun _ => pyNext it >>= fun r => match r with
    | none => pure (.done .next)
    | some v => letOwnedTupleGo t0 it v >>= fun _ => assign t0 env v >>= fun _ => eval i1 env >>= fun x => standAt i1.pos >>= fun _ => foldedSetIterable i1 env x >>= fun y =>
        holding [y] (pyIter y) >>= fun j => runOwn (.compStart (dc2 kx vx t0 i0 t1 i1 scope pos) 1 j (.ref D) env) env >>= fun _ => again (.compLoop (dc2 kx vx t0 i0 t1 i1 scope pos) 0 it (.ref D) env)) := by rfl
theorem dc2_inner : compTurn (dc2 kx vx t0 i0 t1 i1 scope pos) 1 it (.ref D) env = (standAt i1.pos >>= fun _ => pyNext it >>= fun r => match r with
    | none => pure (.done .next)
    | some v => letOwnedTupleGo t1 it v >>= fun _ => assign t1 env v >>= fun _ => (eval kx env >>= fun a => holding [a] (eval vx env) >>= fun b =>
        standAt { kx.pos with endLine := vx.pos.endLine, endCol := vx.pos.endCol } >>= fun _ => holding [a, b] (dictSet D a b)) >>= fun _ => again (.compLoop (dc2 kx vx t0 i0 t1 i1 scope pos) 1 it (.ref D) env)) := by rfl
end
section
variable {prog : Program} {w : World} {A : Around} {R : Result → Shared → Prop} {s : Shared} {kx vx t0 i0 t1 i1 : Expr} {scope : Scope} {pos : Pos} {it : Value} {D : Addr} {env : Env}
/-- the outer loop, by an invariant with a measure -/
theorem dc2_loop0 (fold : ∀ x, foldedSetIterable i1 env x = pure x) (J : Nat → Shared → Prop)
    (go : ∀ m s₁, J m s₁ → wpAny (model prog w) A (pyNext it) (fun r s₂ => match r with
      | none => R (.ok .next) s₂
      | some v => wpAny (model prog w) A (letOwnedTupleGo t0 it v) (fun _ s₃ => wpAny (model prog w) A (assign t0 env v) (fun _ s₄ => wpAny (model prog w) A (eval i1 env) (fun x s₅ => wpAny (model prog w) A (pyIter x) (fun j s₆ =>
          codeAny (model prog w) A (.compStart (dc2 kx vx t0 i0 t1 i1 scope pos) 1 j (.ref D) env) (fun out s₇ => match out with
            | .ok _ => ∃ l, l < m ∧ J l s₇
            | .error _ => False) s₆) (notedBy (model prog w) A env fun e s' => R (.error e) s') s₅) (notedBy (model prog w) A env fun e s' => R (.error e) s') s₄) (notedBy (model prog w) A env fun e s' => R (.error e) s') s₃)
          (notedBy (model prog w) A env fun e s' => R (.error e) s') s₂) (notedBy (model prog w) A env fun e s' => R (.error e) s') s₁)
    (m : Nat) (h : J m s) : codeAny (model prog w) A (.compLoop (dc2 kx vx t0 i0 t1 i1 scope pos) 0 it (.ref D) env) R s := by
  refine codeAny_loop rfl J (fun m s₁ hJ => ?_) m h
  show wpAny _ A ((compTurn (dc2 kx vx t0 i0 t1 i1 scope pos) 0 it (.ref D) env).onRaise (fun e => do noteFrame e env; theTreesLotGoes e)) _ _ s₁
  refine wpAny_noted ?_
  rw [dc2_outer]
  refine wpAny_bind (wpAny_standAt (wpAny_bind (wpAny_mono (go m s₁ hJ) (fun r s₂ k => ?_) fun _ _ z => z)))
  match r, k with
  | none, k => exact wpAny_pure k
  | some v, k =>
    refine wpAny_bind (wpAny_mono k (fun _ s₃ k => wpAny_bind (wpAny_mono k (fun _ s₄ k => wpAny_bind (wpAny_mono k (fun x s₅ k => ?_) fun _ _ z => z)) fun _ _ z => z)) fun _ _ z => z)
    refine wpAny_bind (wpAny_standAt (wpAny_bind (wpAny_of_eq (fold x) (wpAny_bind (wpAny_holding (wpAny_mono k (fun j s₆ k => wpAny_bind (wpAny_runOwn ?_)) fun _ _ z => z))))))
    rw [Around.mark_none]
    refine codeAny_mono k fun out s₇ k => ?_
    match out, k with
    | .ok _, k =>
      first
        | exact wpAny_pure ⟨rfl, k⟩
        | exact wpAny_bind (wpAny_pure (wpAny_pure ⟨rfl, k⟩))
    | .error _, k => exact k.elim
/-- the inner loop -/
theorem dc2_loop1 (J : Nat → Shared → Prop)
    (go : ∀ m s₁, J m s₁ → wpAny (model prog w) A (pyNext it) (fun r s₂ => match r with
      | none => R (.ok .next) s₂
      | some v => wpAny (model prog w) A (letOwnedTupleGo t1 it v) (fun _ s₃ => wpAny (model prog w) A (assign t1 env v) (fun _ s₄ => wpAny (model prog w) A (eval kx env) (fun a s₅ => wpAny (model prog w) A (eval vx env) (fun b s₆ =>
          wpAny (model prog w) A (dictSet D a b) (fun _ s₇ => ∃ l, l < m ∧ J l s₇) (notedBy (model prog w) A env fun e s' => R (.error e) s') s₆) (notedBy (model prog w) A env fun e s' => R (.error e) s') s₅) (notedBy (model prog w) A env fun e s' => R (.error e) s') s₄)
          (notedBy (model prog w) A env fun e s' => R (.error e) s') s₃) (notedBy (model prog w) A env fun e s' => R (.error e) s') s₂) (notedBy (model prog w) A env fun e s' => R (.error e) s') s₁)
    (m : Nat) (h : J m s) : codeAny (model prog w) A (.compLoop (dc2 kx vx t0 i0 t1 i1 scope pos) 1 it (.ref D) env) R s := by
  refine codeAny_loop rfl J (fun m s₁ hJ => ?_) m h
  show wpAny _ A ((compTurn (dc2 kx vx t0 i0 t1 i1 scope pos) 1 it (.ref D) env).onRaise (fun e => do noteFrame e env; theTreesLotGoes e)) _ _ s₁
  refine wpAny_noted ?_
  rw [dc2_inner]
  refine wpAny_bind (wpAny_standAt (wpAny_bind (wpAny_mono (go m s₁ hJ) (fun r s₂ k => ?_) fun _ _ z => z)))
  match r, k with
  | none, k => exact wpAny_pure k
  | some v, k =>
    refine wpAny_bind (wpAny_mono k (fun _ s₃ k => wpAny_bind (wpAny_mono k (fun _ s₄ k => wpAny_bind (wpAny_bind (wpAny_mono k (fun a s₅ k => ?_) fun _ _ z => z))) fun _ _ z => z)) fun _ _ z => z)
    exact wpAny_bind (wpAny_holding (wpAny_mono k (fun b s₆ k => wpAny_bind (wpAny_standAt (wpAny_holding (wpAny_mono k (fun _ s₇ k => wpAny_pure ⟨rfl, k⟩) fun _ _ z => z)))) fun _ _ z => z))
/-- the inner loop's start -/
theorem dc2_start1 (h0 : codeAny (model prog w) A (.compLoop (dc2 kx vx t0 i0 t1 i1 scope pos) 1 it (.ref D) env) R s)
    (h : wpAny (model prog w) A (pyIter it) (fun j s' => codeAny (model prog w) A (.compLoop (dc2 kx vx t0 i0 t1 i1 scope pos) 1 j (.ref D) env) R s') (notedBy (model prog w) A env fun e s' => R (.error e) s') s) :
    codeAny (model prog w) A (.compStart (dc2 kx vx t0 i0 t1 i1 scope pos) 1 it (.ref D) env) R s := by
  refine codeAny_of_tree ?_
  show wpAny _ A ((compStart (dc2 kx vx t0 i0 t1 i1 scope pos) 1 it (.ref D) env).onRaise (fun e => do noteFrame e env; standAt theWindowsPlace)) _ _ s
  refine wpAny_notedAt ?_
  unfold compStart
  show wpAny _ A (ask >>= _) _ _ s
  refine wpAny_bind (wpAny_askSetting (wpAny_ite ?_))
  split
  · first
      | exact wpAny_bind (wpAny_pure (wpAny_pure ⟨rfl, h0⟩))
      | exact wpAny_pure ⟨rfl, h0⟩
  · refine wpAny_bind (wpAny_rule ?_)
    show wpAny _ A (standAt i1.pos >>= _) _ _ s
    exact wpAny_bind (wpAny_standAt (wpAny_bind (wpAny_mono h (fun _ _ k => wpAny_pure ⟨rfl, k⟩) fun _ _ z => z)))
end
/-- the reading: the keys and values of the turns of the inner walk, stored one by one -/
def tDc2 (wi : TI) (g : TG) (wi1 : TI) (g1 : TG) (tk tv : TE) (vs vs1 : List Nat) : TE := fun σ H Q => wi σ H fun J Ha => ∀ D, Ha D = none → ∃ W : Nat → Nat → Hp → Prop, (∃ m, W 0 m (upd Ha D (.dK []))) ∧ ∀ i m Hb, W i m Hb →
  (J.stop i Hb ∧ Q (.ref D) Hb) ∨ (J.go i Hb ∧ ∃ Nx : Hp → Prop, (∀ Hc, Nx Hc → ∃ l, l < m ∧ W (i + 1) l Hc) ∧ ∀ x Hc, J.yld i Hb x Hc → g x (wipe σ vs) Hc fun τ Hd => wipe τ vs = wipe σ vs ∧ wi1 τ Hd fun J1 He =>
    ∃ W1 : Nat → Nat → Hp → Prop, (∃ m, W1 0 m He) ∧ ∀ j n Hf, W1 j n Hf → (J1.stop j Hf ∧ Nx Hf) ∨ (J1.go j Hf ∧ ∃ N1 : Hp → Prop, (∀ Hg, N1 Hg → ∃ l, l < n ∧ W1 (j + 1) l Hg) ∧ ∀ y Hg, J1.yld j Hf y Hg →
      g1 y (wipe τ vs1) Hg fun υ Hh => wipe υ vs1 = wipe τ vs1 ∧ tk υ Hh fun a Hi => tv υ Hi fun b Hj => ∃ kvs k, a = kV k ∧ Hj D = some (.dK kvs) ∧ kvs.length < sizeLine ∧ N1 (upd Hj D (.dK (putK kvs k b)))))
theorem pe_dc2 {X : Cx} {kx vx t0 i0 t1 i1 : Expr} {scope : Scope} {own : List (Str × Nat)} {vs1 : List Nat} {pos : Pos} {wi wi1 : TI} {g g1 : TG} {tk tv : TE} (calm : X.calm = true) (nd : X.N.Nodup) (src : PI X t0 i0 wi) (blk : BlkOk X.N X.env.scope scope own) (sub : ∀ i ∈ vs1, i ∈ own.map (·.2))
    (pg0 : ∀ s H C cl fp, PG (X.blk s H scope (compEnvC scope cl C X.env) fp) t0 g) (src1 : ∀ s H C cl fp, PI (X.blk s H scope (compEnvC scope cl C X.env) fp) t1 i1 wi1) (pg1 : ∀ s H C cl fp, PG (X.blk s H scope (compEnvC scope cl C X.env) fp) t1 g1)
    (key : ∀ s H C cl fp, PE (X.blk s H scope (compEnvC scope cl C X.env) fp) kx tk) (val : ∀ s H C cl fp, PE (X.blk s H scope (compEnvC scope cl C X.env) fp) vx tv)
    (fold0 : ∀ x, foldedSetIterable i0 X.env x = pure x := by intro _; rfl) (fold1 : ∀ env x, foldedSetIterable i1 env x = pure x := by intro _ _; rfl) :
    PE X (dc2 kx vx t0 i0 t1 i1 scope pos) (tDc2 wi g wi1 g1 tk tv (own.map (·.2)) vs1) := by
  refine ⟨fun pins s σ H Q I h => ?_⟩
  rw [arm_eval_DictComp]
  have captured : ∀ y ∈ scope.names, y.2 = .free → ∃ c, X.env.cells.lookup y.1 = some c := fun y hy e => (blk.free y hy e).elim (fun z => I.ok.has _ (.inl z)) fun z => I.ok.has _ (.inr z)
  refine wpAny_comprehension_free rfl fold0 (closure_ok captured) blk.kind (fun y hy e => by rw [blk.uniq y hy, e]) (thn (src.run pins s σ H _ I h) fun xv sa hx => thn hx fun itv sb hb => ?_)
  obtain ⟨it, fp, tn, J, Ha, rfl, Ia, T, st, fr, q⟩ := hb
  refine wpAny_newObj_type (newEnv_comp ?_)
  generalize hD : sb.heap.objs.size = D
  have freshD : Ha D = none := Ia.hok.fresh (Nat.le_of_eq hD)
  obtain ⟨W, ⟨m0, w0⟩, turn⟩ := q D freshD
  generalize hsc : ({ sb with heap := sb.heap.push { cls := .type "dict", data := .dict #[] } } : Shared) = sc
  have Ic : Inv X pins σ (upd Ha D (.dK [])) sc := by
    rw [← hsc, ← hD]
    exact Ia.laid (t' := sb.toks) (fun b o e => Heap.get?_push_of_some _ e) (Nat.le_refl _) (dk_empty sb.heap Ia.big)
  have heapc : sc.heap = sb.heap.push { cls := .type "dict", data := .dict #[] } := by rw [← hsc]
  have small : ∀ b ∈ fp, b < sb.heap.objs.size := fun b hb => let ⟨_, e, _⟩ := T.obj _ _ st b hb; Heap.lt_size e
  have frc : ∀ b ∈ fp, FpOk X pins (upd Ha D (.dK [])) b ∧ b < sc.heap.objs.size := by
    intro b hb
    have lt := small b hb
    constructor
    · refine ⟨?_, (fr b hb).2⟩
      rw [upd_ne (by rw [← hD]; exact Nat.ne_of_lt lt)]
      exact (fr b hb).1
    · rw [heapc, Heap.size_push]
      exact Nat.lt_succ_of_lt lt
  have stc : tn 0 sc.heap := T.keep _ _ _ st fun b _ o e => by rw [heapc]; exact Heap.get?_push_of_some _ e
  have Id := block_start Ic blk nd frc
  generalize hcl : cellsFrom (sc.heap.objs.size + 1) scope.names (cloFrom X.env.cells scope.names []) = cl at Id
  have pgA := pg0 sc (upd Ha D (.dK [])) sc.heap.objs.size cl fp
  have pgB := pg1 sc (upd Ha D (.dK [])) sc.heap.objs.size cl fp
  have piB := src1 sc (upd Ha D (.dK [])) sc.heap.objs.size cl fp
  have peK := key sc (upd Ha D (.dK [])) sc.heap.objs.size cl fp
  have peV := val sc (upd Ha D (.dK [])) sc.heap.objs.size cl fp
  show codeAny _ _ (.compStart (dc2 kx vx t0 i0 t1 i1 scope pos) 0 (.ref it) (.ref D) (compEnvC scope cl sc.heap.objs.size X.env)) (compPost (model X.prog X.w) X.A X.xe none (EP X pins σ Q) (.ref D) sc.heap.objs.size)
    { sc with heap := pushCells (sc.heap.push { cls := .type "dict", data := .dict #[] }) scope.names }
  have clean : ∀ b ∈ fp, (upd Ha D (.dK [])) b = none := fun b hb => (frc b hb).1.1
  generalize hce : compEnvC scope cl sc.heap.objs.size X.env = ce at Id pgA pgB piB peK peV ⊢
  have loc : ce.locals = sc.heap.objs.size := by rw [← hce]; rfl
  generalize upd Ha D (.dK []) = Hc at Ic Id pgA pgB piB peK peV w0 clean frc
  generalize hsd : ({ sc with heap := pushCells (sc.heap.push { cls := .type "dict", data := .dict #[] }) scope.names } : Shared) = sd at Id ⊢
  have std : tn 0 sd.heap := T.keep _ _ _ stc fun b _ o e => by rw [← hsd]; exact pushCells_keeps _ _ _ _ (Heap.get?_push_of_some _ e)
  have mine : ∀ {τ : L2.St} {H' : Hp} {s' : Shared}, Inv (X.blk sc Hc scope ce fp) [] τ H' s' → (∀ b ∈ fp, H' b = none) → ∀ b ∈ fp, FpOk (X.blk sc Hc scope ce fp) [] H' b := by
    intro τ H' s' I' free b hb
    exact ⟨free b hb, (I'.ok.exf b hb).1, I'.ok.exfs b hb, .inl hb, fun y c e => (I'.ok.exf b hb).2 y c e, fun p hp => nomatch (show p ∈ ([] : List (Addr × Obj)) ++ [] from hp)⟩
  -- what holds ahead of each turn of the outer walk
  let J0 : Nat → Shared → Prop := fun m s' => ∃ i H', Inv (X.blk sc Hc scope ce fp) [] (wipe σ (own.map (·.2))) H' s' ∧ tn i s'.heap ∧ (∀ b ∈ fp, H' b = none) ∧ W i m H'
  have outer : codeAny (model X.prog X.w) X.A (.compLoop (dc2 kx vx t0 i0 t1 i1 scope pos) 0 (.ref it) (.ref D) ce) (compPost (model X.prog X.w) X.A X.xe none (EP X pins σ Q) (.ref D) sc.heap.objs.size) sd := by
    refine dc2_loop0 (fold1 ce) J0 ?_ m0 ⟨0, Hc, Id, std, clean, w0⟩
    rintro m se ⟨i, He, Ie, ste, free, we⟩
    rcases turn i m He we with ⟨stop, qq⟩ | ⟨go, Nx, more, step⟩
    · refine thnF (T.done (X.blk sc Hc scope ce fp) rfl rfl rfl calm i [] se _ He (fun _ _ => False) Ie (mine Ie free) ste stop) fun r sf ⟨hr, If⟩ => ?_
      subst hr
      have Ig : Inv X pins σ He sf := Ic.call' (ch := fp) If.os If.base If.hok If.bare fun b hb => let z := (frc b hb).1.2; ⟨z.2.2.1, z.1, z.2.2.2.1, z.2.2.2.2⟩
      have gone : He sc.heap.objs.size = none := by
        have z : He ce.locals = none := If.free
        rwa [loc] at z
      obtain ⟨ns, hns, _⟩ := If.loc
      have hns : sf.heap.Ns ce.locals ns := hns
      rw [loc] at hns
      obtain ⟨f0, f1, f2, f3, f4, f5⟩ := Ic.fpOk (Nat.le_refl _) gone
      refine ⟨ns, hns, fun hz sb => ?_⟩
      exact ⟨.ref D, He, Ig.turned (t' := sf.toks) (fun b o hb e => (sb.2 b hb).trans e) f0 f1 f3 f4 f5, rfl, qq⟩
    · refine thnF (T.item (X.blk sc Hc scope ce fp) rfl rfl rfl calm i [] se _ He (fun _ _ => False) Ie (mine Ie free) ste go) fun r sf ⟨u, hr, hf⟩ => ?_
      subst hr
      refine thnF hf fun _ sg ⟨x, Hg, Ig, rx, yx, stg, freeg⟩ => ?_
      have Ig' := Ig.pinned (mine Ig freeg) (T.obj _ _ stg)
      refine thnF (pgA.run _ sg _ Hg x u _ Ig' rx (step x Hg yx)) fun _ sh ⟨τ, Hh, Ih, wτ, qh⟩ => ?_
      -- the end of a turn
      have ends : ∀ {υ : L2.St} {s' : Shared} {H' : Hp}, Inv (X.blk sc Hc scope ce fp) ([] ++ pinsAt fp sg.heap) υ H' s' → (wipe σ (own.map (·.2))).length = υ.length → (∀ (j : Nat) v, (wipe σ (own.map (·.2)))[j]? = some (some v) → υ[j]? = some (some v)) → Nx H' → ∃ l, l < m ∧ J0 l s' := by
        intro υ s' H' I' len known nx
        obtain ⟨l, hl, wl⟩ := more H' nx
        have still : ∀ b ∈ fp, ∀ o, sg.heap.get? b = some o → s'.heap.get? b = some o ∧ H' b = none := fun b hb o e =>
          let z := I'.pin (b, o) (List.mem_append_right _ (List.mem_append_right _ (mem_pinsAt hb e)))
          ⟨z.1, z.2.1⟩
        refine ⟨l, hl, i + 1, H', (I'.unpinned (pins := [])).weak len known, T.keep _ _ _ stg fun b hb o e => (still b hb o e).1, fun b hb => ?_, wl⟩
        obtain ⟨o, e, _⟩ := T.obj _ _ stg b hb
        exact (still b hb o e).2
      have lenτ : (wipe σ (own.map (·.2))).length = (wipe τ vs1).length := by rw [← wτ, wipe_length, wipe_length]
      have knownτ : ∀ (j : Nat) v, (wipe σ (own.map (·.2)))[j]? = some (some v) → (wipe τ vs1)[j]? = some (some v) := by
        intro j v e
        rw [← wτ] at e
        obtain ⟨ea, eb⟩ := wipe_some e
        rw [wipe_out fun z => eb (sub j z)]
        exact ea
      refine thnF (piB.run _ sh τ Hh _ Ih qh) fun yv si hi => thnF hi fun jv sj hj => ?_
      obtain ⟨it1, fp1, tn1, J1, Hj, rfl, Ij, T1, stj, frj, W1, ⟨m1, w1⟩, turn1⟩ := hj
      have mine1 : ∀ {H' : Hp}, (∀ b ∈ fp1, H' b = none) → ∀ b ∈ fp1, FpOk (X.blk sc Hc scope ce fp) ([] ++ pinsAt fp sg.heap) H' b := fun free b hb => ⟨free b hb, (frj b hb).2⟩
      let JI : Nat → Shared → Prop := fun n s' => ∃ j H', Inv (X.blk sc Hc scope ce fp) ([] ++ pinsAt fp sg.heap) (wipe τ vs1) H' s' ∧ tn1 j s'.heap ∧ (∀ b ∈ fp1, H' b = none) ∧ W1 j n H'
      have inner : codeAny (model X.prog X.w) X.A (.compLoop (dc2 kx vx t0 i0 t1 i1 scope pos) 1 (.ref it1) (.ref D) ce) (fun out s' => match out with
          | .ok _ => ∃ l, l < m ∧ J0 l s'
          | .error _ => False) sj := by
        refine dc2_loop1 JI ?_ m1 ⟨0, Hj, Ij.weak (wipe_length _ _) (fun j v e => (wipe_some e).1), stj, fun b hb => (frj b hb).1, w1⟩
        rintro n sk ⟨j, Hk, Ik, stk, freek, wk⟩
        rcases turn1 j n Hk wk with ⟨stop1, nx⟩ | ⟨go1, N1, more1, step1⟩
        · refine thnF (T1.done (X.blk sc Hc scope ce fp) rfl rfl rfl calm j _ sk (wipe τ vs1) Hk (fun _ _ => False) Ik (mine1 freek) stk stop1) fun r sl ⟨hr, Il⟩ => ?_
          subst hr
          exact ends Il lenτ knownτ nx
        · refine thnF (T1.item (X.blk sc Hc scope ce fp) rfl rfl rfl calm j _ sk (wipe τ vs1) Hk (fun _ _ => False) Ik (mine1 freek) stk go1) fun r sl ⟨u1, hr, hl⟩ => ?_
          subst hr
          refine thnF hl fun _ sm ⟨y, Hm, Im, ry, yy, stm, freem⟩ => ?_
          have Im' := Im.pinned (mine1 freem) (T1.obj _ _ stm)
          refine thnF (pgB.run _ sm (wipe τ vs1) Hm y u1 _ Im' ry (step1 y Hm yy)) fun _ sn ⟨υ, Hn, In, wυ, qn⟩ => ?_
          refine thnF (peK.run _ sn υ Hn _ In qn) fun a so ⟨ya, Ho, Io, ra, qo⟩ => ?_
          refine thnF (peV.run _ so υ Ho _ Io qo) fun b sp ⟨yb, Hp', Ip, rb, kvs, k, ek, hDp, few, nx⟩ => ?_
          subst ek
          refine d_dictSet (X := X.blk sc Hc scope ce fp) Ip hDp few ra rb fun sq Iq => ?_
          obtain ⟨l, hl1, wl⟩ := more1 _ nx
          have still : ∀ b ∈ fp1, ∀ o, sm.heap.get? b = some o → sq.heap.get? b = some o ∧ (upd Hp' D (.dK (putK kvs k yb))) b = none := fun b hb o e =>
            let z := Iq.pin (b, o) (List.mem_append_right _ (List.mem_append_right _ (mem_pinsAt hb e)))
            ⟨z.1, z.2.1⟩
          refine ⟨l, hl1, j + 1, _, Iq.unpinned.weak (by rw [← wυ, wipe_length]) (fun j v e => by rw [← wυ] at e; exact (wipe_some e).1), T1.keep _ _ _ stm fun b hb o e => (still b hb o e).1, fun b hb => ?_, wl⟩
          obtain ⟨o, e, _⟩ := T1.obj _ _ stm b hb
          exact (still b hb o e).2
      exact dc2_start1 inner (T1.self X.A 0 _ _ _ stj inner)
  exact codeAny_compStart_dict outer (T.self X.A 0 _ _ _ std outer)
end Vf

set_option maxRecDepth 100000
set_option maxHeartbeats 8000000
namespace Vf
open PySem PySem.Spec PyProof.Rows L2
def srtCs (cs : List (Str × Nat)) : List (Str × Nat) := (srt (cs.map Prod.fst)).map fun z => (z, sizeOfD cs z)
def numPr (ls : List (List Str)) : List (Key × V) := ls.zipIdx.flatMap fun q => q.1.map fun z => (Sum.inr z, V.int (q.2 : Int))
def rTup (K : PySem.W.Frag) : List V → Hp → VK → Prop := fun xs H Q => ∃ p ys, xs = [.ref p] ∧ ((SqL K H p ys ∧ ∀ l, H l = none → Q (.ref l) (upd H l (.tup ys))) ∨ (SqT K H p ys ∧ Q (.ref p) H))
theorem cr_tup {X : Cx} {K : PySem.W.Frag} (hK : X.K = K) : CallR X (.type "tuple") (rTup K) := by
  subst hK
  exact call_tuple_of
def lflds (sd : Addr) (r : Nat) (t nd : Addr) : List (Str × V) := [("_sizes", V.ref sd), ("room", V.int (r : Int)), ("lines", V.ref t), ("_numbers", V.ref nd)]
theorem putF_ne {f g : Str} {v x : V} {r : List (Str × V)} (h : ¬ g = f) : putF f v ((g, x) :: r) = (g, x) :: putF f v r := if_neg h
theorem lflds_put (sd : Addr) (r : Nat) (t nd : Addr) : putF "_numbers" (.ref nd) (putF "lines" (.ref t) (putF "room" (.int (r : Int)) (putF "_sizes" (.ref sd) []))) = lflds sd r t nd := by
  have a1 : putF ("_sizes" : Str) (V.ref sd) [] = [(("_sizes" : Str), V.ref sd)] := rfl
  rw [a1, putF_ne (by decide +kernel)]
  have a2 : putF ("room" : Str) (V.int (r : Int)) [] = [(("room" : Str), V.int (r : Int))] := rfl
  rw [a2, putF_ne (by decide +kernel), putF_ne (by decide +kernel)]
  have a3 : putF ("lines" : Str) (V.ref t) [] = [(("lines" : Str), V.ref t)] := rfl
  rw [putF_ne (by decide +kernel), a3, putF_ne (by decide +kernel), putF_ne (by decide +kernel)]
  rfl
theorem lk_ne {f g : Str} {v : V} {r : List (Str × V)} (h : (g == f) = false) : List.lookup g ((f, v) :: r) = List.lookup g r := by rw [List.lookup_cons, h]
theorem lk_sizes {sd : Addr} {r : Nat} {t nd : Addr} : (lflds sd r t nd).lookup ("_sizes" : Str) = some (.ref sd) := by unfold lflds; rw [List.lookup_cons_self]
theorem lk_room {sd : Addr} {r : Nat} {t nd : Addr} : (lflds sd r t nd).lookup ("room" : Str) = some (.int (r : Int)) := by unfold lflds; rw [lk_ne (by decide +kernel), List.lookup_cons_self]
theorem lk_lines {sd : Addr} {r : Nat} {t nd : Addr} : (lflds sd r t nd).lookup ("lines" : Str) = some (.ref t) := by unfold lflds; rw [lk_ne (by decide +kernel), lk_ne (by decide +kernel), List.lookup_cons_self]
theorem lk_numbers {sd : Addr} {r : Nat} {t nd : Addr} : (lflds sd r t nd).lookup ("_numbers" : Str) = some (.ref nd) := by unfold lflds; rw [lk_ne (by decide +kernel), lk_ne (by decide +kernel), lk_ne (by decide +kernel), List.lookup_cons_self]
structure TxtL (K : PySem.W.Frag) (mg : Str → Option Value) (C : Addr) : Prop where
  cl : Cls K C
  nS : NoAttr K C "_sizes"
  nR : NoAttr K C "room"
  nL : NoAttr K C "lines"
  nN : NoAttr K C "_numbers"
  mgC : mg "Layout" = some (.ref C)
theorem numPr_step {ls : List (List Str)} {i : Nat} {ws : List Str} (h : ls[i]? = some ws) : numPr (ls.take (i + 1)) = numPr (ls.take i) ++ ws.map fun z => (Sum.inr z, V.int (i : Int)) := by
  have hl : (ls.take i).length = i := by
    rw [List.length_take]
    have := (List.getElem?_eq_some_iff.mp h).1
    omega
  unfold numPr
  rw [List.take_add_one, h, Option.toList_some, List.zipIdx_append, List.flatMap_append, hl, Nat.zero_add]
  simp
theorem numPr_len {ls : List (List Str)} : (numPr ls).length = ls.flatten.length := by
  have e : ∀ (ls : List (List Str)) (k : Nat), ((ls.zipIdx k).flatMap fun q => q.1.map fun z => ((Sum.inr z, V.int (q.2 : Int)) : Key × V)).length = ls.flatten.length := by
    intro ls
    induction ls with
    | nil => intro k; rfl
    | cons w r ih =>
      intro k
      rw [List.zipIdx_cons, List.flatMap_cons, List.length_append, ih, List.flatten_cons, List.length_append, List.length_map]
  exact e ls 0
theorem flat_srt : ∀ ps : List (Addr × List Str), (ps.map fun p => srt p.2).flatten.length = (ps.flatMap Prod.snd).length
  | [] => rfl
  | a :: r => by rw [List.map_cons, List.flatten_cons, List.length_append, List.flatMap_cons, List.length_append, (srt_perm a.2).length_eq, flat_srt r]
theorem none_back {H H' : Hp} {a : Addr} (s : Same H H') (h : H' a = none) : H a = none := by
  cases e : H a with
  | none => rfl
  | some o => rw [s _ _ e] at h; cases h
theorem none_but {p a : Addr} {H H' : Hp} {o : HO} (b : But p H H') (hp : H' p = some o) (h : H' a = none) : H a = none := by
  cases e : H a with
  | none => rfl
  | some u =>
    have hn : a ≠ p := fun z => by rw [z, hp] at h; cases h
    rw [b _ _ hn e] at h
    cases h
/-- a layout: cells with sizes by name, room, lines -/
def LayAt (C : Addr) (H : Hp) (p sd nd : Addr) (cs : List (Str × Nat)) (r : Nat) (ls : List (List Str)) : Prop :=
  ∃ dx t qs, H p = some (.ins C dx (lflds sd r t nd)) ∧ H sd = some (.dK (cellKv cs)) ∧ H nd = some (.dK (mergeK [] (numPr ls))) ∧ LinesAt H t qs ∧ qs.map Prod.snd = ls
theorem LayAt.same {C : Addr} {H H' : Hp} {p sd nd : Addr} {cs : List (Str × Nat)} {r : Nat} {ls : List (List Str)} (h : LayAt C H p sd nd cs r ls) (s : Same H H') : LayAt C H' p sd nd cs r ls := by
  obtain ⟨dx, t, qs, h1, h2, h3, h4, h5⟩ := h
  exact ⟨dx, t, qs, s _ _ h1, s _ _ h2, s _ _ h3, h4.same s, h5⟩
def linesOf (ps : List (Addr × List Str)) : List (List Str) := sortL (ps.map fun p => srt p.2)
theorem srtCs_take (cs : List (Str × Nat)) (i : Nat) : (srtCs cs).take i = ((srt (cs.map Prod.fst)).take i).map fun z => (z, sizeOfD cs z) := by
  unfold srtCs
  rw [List.map_take]
theorem srtCs_len (cs : List (Str × Nat)) : (srtCs cs).length = cs.length := by
  unfold srtCs
  rw [List.length_map, (srt_perm _).length_eq, List.length_map]
section
variable {P : Program} {w : World} {K : PySem.W.Frag} {mg : Str → Option Value} {base : Heap}
def sp_Layout_init (C : Addr) : Sp := fun vs H Q _ => ∃ (p dx d l : Addr) (cs : List (Str × Nat)) (r : Nat) (ps : List (Addr × List Str)), vs = [.ref p, .ref d, .int (r : Int), .ref l] ∧ H p = some (.ins C dx []) ∧ H d = some (.dK (cellKv cs)) ∧ GoodCs cs ∧ 1 ≤ r ∧ r ≤ 32 ∧ InLines H l cs r ps ∧
  ∀ H' sd nd, But p H H' → H sd = none → H nd = none → sd ≠ nd → LayAt C H' p sd nd (srtCs cs) r (linesOf ps) → Q .non H'
theorem ok_Layout_init {f C : Addr} {fd : FuncData} (F : Fun K "__init__" "Layout.__init__" s_Layout_init f fd) (T : Txt0 K mg) (TL : TxtL K mg C) (GC : OkF P w K mg base CX0 "_check_cells" p_check_cells 3 sp_check_cells)
    (GR : OkF P w K mg base CX0 "_check_room" p_check_room 3 sp_check_room) (GL : OkF P w K mg base CX0 "_are_lines" p_are_lines 3 sp_are_lines) : FnOk P w K mg base CX0 4 f fd p_Layout_init (sp_Layout_init C) := by
  refine F.ok sc_Layout_init (fun vs H Q E h => ?_) (fun cdv A outer s H vs Q E hr h => ?_)
  · obtain ⟨p, dx, d, l, cs, r, ps, rfl, _⟩ := h
    rfl
  · obtain ⟨p, dx, d, l, cs, r, ps, rfl, hp, hd, g, r1, r2, il, k⟩ := h
    refine ⟨_, pss_cons (ps_expr (pe_fn GC hr rfl pass0 (pa_cons (pv 1) pa_nil))) (pss_cons (ps_expr (pe_fn GR hr rfl pass0 (pa_cons (pv 2) pa_nil)))
      (pss_cons (ps_if (pt_not (pt_val (pe_fn GL hr rfl pass0 (pa_cons (pv 1) (pa_cons (pv 2) (pa_cons (pv 3) pa_nil)))))) (pss_one ps_never) pss_nil)
      (pss_cons (ps_fld (pv 0) (pe_dc (own := [("name", 4)]) (g := gName 4) (tt := tYes) rfl sc_Layout_init.nd (pi_list (pe_callB (call_sortedD rfl) (by rfl) T.sorted (by decide +kernel) (pa_cons (pv 1) pa_nil))) (blkOk_by (N := n_Layout_init) (sc := defScope s_Layout_init) (by decide +kernel))
          (fun _ _ _ _ _ => pg_name (i := 4) sc_Layout_init.nd rfl (Or.inl rfl)) (fun _ _ _ _ _ => pts_nil) (fun _ _ _ _ _ => pv 4) (fun _ _ _ _ _ => pe_dget (hu_of hr) (pv 1) (pv 4) (fun _ _ => rfl))) rfl)
      (pss_cons (ps_fld (pv 0) (pv 2) rfl)
      (pss_cons (ps_fld (pv 0) (pe_callTy call_tuple_of (by rfl) T.tuple (by decide +kernel) (pa_cons (pe_callB (cr_sortedD hr) (by rfl) T.sorted (by decide +kernel) (pa_cons
          (pe_lc (own := [("line", 5)]) (g := gName 5) (tt := tYes) rfl sc_Layout_init.nd (pi_list (pv 3)) (blkOk_by (N := n_Layout_init) (sc := defScope s_Layout_init) (by decide +kernel))
            (fun _ _ _ _ _ => pg_name (i := 5) sc_Layout_init.nd rfl (Or.inl rfl)) (fun _ _ _ _ _ => pts_nil)
            (fun _ _ _ _ _ => pe_callTy (cr_tup (K := K) rfl) (by rfl) T.tuple (by decide +kernel) (pa_cons (pe_callB (r := rSortedS K) cr_sortedS (by rfl) T.sorted (by decide +kernel) (pa_cons (pv 5) pa_nil)) pa_nil))) pa_nil)) pa_nil)) rfl)
      (pss_one (ps_fld (pv 0) (pe_dc2 (own := [("number", 6), ("line", 5), ("name", 4)]) (vs1 := [4]) (wi1 := iTup K (tVar 5)) (g := gTup K 2 (gCons (gName 6) (gCons (gName 5) gNil))) (g1 := gName 4) rfl sc_Layout_init.nd
          (pi_enumT (by rfl) T.enumerate (pa_cons (pe_fld (pv 0) rfl) pa_nil)) (blkOk_by (N := n_Layout_init) (sc := defScope s_Layout_init) (by decide +kernel)) (by decide)
          (fun _ _ _ _ _ => pg_tup (by rfl) (pgs_cons (pg_name (i := 6) sc_Layout_init.nd rfl (Or.inl rfl)) (pgs_cons (pg_name (i := 5) sc_Layout_init.nd rfl (Or.inl rfl)) pgs_nil)))
          (fun _ _ _ _ _ => pi_tup (pv 5)) (fun _ _ _ _ _ => pg_name (i := 4) sc_Layout_init.nd rfl (Or.inl rfl)) (fun _ _ _ _ _ => pv 4) (fun _ _ _ _ _ => pv 6)) rfl))))))), ?_⟩
    have few := g.few
    refine ⟨_, rfl, d, cs, rfl, hd, g, fun H1 s1 => ⟨_, rfl, r, rfl, r1, r2, ?_⟩⟩
    refine ⟨_, rfl, _, rfl, _, rfl, d, l, cs, r, ps, rfl, s1 _ _ hd, g, il.same s1, fun H2 s2 => ⟨_, rfl, iteF ?_⟩⟩
    have s12 := s1.trans s2
    refine ⟨_, rfl, d, cellKv cs, cs.map Prod.fst, rfl, .inl (s12 _ _ hd), cell_keys cs, by rw [List.length_map]; omega, fun zs q1 hz1 hz2 hq1 => ⟨q1, rfl, ⟨_, SqL.of upd_same⟩, fun sd hsd => ?_⟩⟩
    obtain rfl : zs = srt (cs.map Prod.fst) := srt_of hz1 hz2
    have s3 : Same H (upd H2 q1 (.lst ((srt (cs.map Prod.fst)).map V.str))) := s12.trans (same_new hq1)
    have e3 : (upd H2 q1 (.lst ((srt (cs.map Prod.fst)).map V.str))) q1 = some (.lst ((srt (cs.map Prod.fst)).map V.str)) := upd_same
    generalize hH3 : upd H2 q1 (.lst ((srt (cs.map Prod.fst)).map V.str)) = H3 at s3 e3 hsd ⊢
    have hzl : (srt (cs.map Prod.fst)).length = cs.length := by rw [(srt_perm _).length_eq, List.length_map]
    have znd : (srt (cs.map Prod.fst)).Nodup := (srt_perm _).nodup_iff.mpr g.nd
    have wz : Walk (Itl K q1) (srt (cs.map Prod.fst)).length (fun H => SqL K H q1 ((srt (cs.map Prod.fst)).map V.str)) (YAt ((srt (cs.map Prod.fst)).map V.str)) := (walk_list (K := K) (a := q1) (xs := (srt (cs.map Prod.fst)).map V.str) |> fun z => by rw [List.length_map] at z; exact z)
    refine dc_it wz (fun i H' => Same H3 H' ∧ H' sd = some (.dK (cellKv ((srtCs cs).take i)))) ⟨same_new hsd, upd_same⟩ (fun i H' _ q => SqL.of (q.1 _ _ e3)) ?_ ?_
    · rintro i x H4 H5 hi ⟨s4, e4⟩ ⟨rfl, hx⟩
      have hj : (srt (cs.map Prod.fst))[i]? = some (srt (cs.map Prod.fst))[i] := List.getElem?_eq_getElem hi
      generalize (srt (cs.map Prod.fst))[i] = z at hj
      rw [List.getElem?_map, hj] at hx
      obtain rfl : V.str z = x := Option.some.inj hx
      have hz := size_some ((srt_perm _).mem_iff.mp (List.mem_of_getElem? hj))
      have gg := DGet.k (k := Sum.inr z) (s4 _ _ (s3 _ _ hd))
      rw [valV_cells, hz] at gg
      refine ⟨rfl, _, rfl, _, rfl, _, rfl, d, _, rfl, gg, _, Sum.inr z, rfl, e4, ?_, same_upd s4 hsd, ?_⟩
      · show (cellKv _).length < _
        unfold cellKv
        rw [List.length_map, List.length_take, srtCs_len, sizeLine_eq]
        omega
      · rw [upd_same, putK_new]
        · rw [srtCs_take, srtCs_take, List.take_add_one, hj, List.map_append]
          unfold cellKv
          rw [List.map_append]
          rfl
        · refine val_none fun hk => ?_
          rw [cell_keys, srtCs_take, List.map_map] at hk
          obtain ⟨y, hy, hyz⟩ := List.mem_map.mp hk
          obtain ⟨y', hy', rfl⟩ := List.mem_map.mp hy
          have hyz' : y' = z := Sum.inr.inj hyz
          subst hyz'
          obtain ⟨n, hn1, hn2⟩ := List.getElem_of_mem hy'
          rw [List.getElem_take] at hn2
          rw [List.length_take] at hn1
          have : n = i := ((List.getElem?_inj (by omega) znd).mp (by rw [hj, List.getElem?_eq_getElem (by omega), ← hn2]))
          omega
    · rintro H4 ⟨s4, e4⟩
      rw [List.take_of_length_le (by rw [srtCs_len]; omega)] at e4
      have s34 := s3.trans s4
      have hp4 := s34 _ _ hp
      refine ⟨_, rfl, p, C, dx, [], rfl, hp4, TL.cl, TL.nS, (by show 0 < 1000; decide), ?_⟩
      refine ⟨_, rfl, _, rfl, p, C, dx, _, rfl, upd_same, TL.cl, TL.nR, (by show 1 < 1000; decide), ?_⟩
      have b5 : But p H4 (upd (upd H4 p (.ins C dx (putF "_sizes" (.ref sd) []))) p (.ins C dx (putF "room" (.int (r : Int)) (putF "_sizes" (.ref sd) [])))) := ((But.refl p H4).put).put
      have ep5 : (upd (upd H4 p (.ins C dx (putF "_sizes" (.ref sd) []))) p (.ins C dx (putF "room" (.int (r : Int)) (putF "_sizes" (.ref sd) [])))) p = some (.ins C dx (putF "room" (.int (r : Int)) (putF "_sizes" (.ref sd) []))) := upd_same
      generalize (upd (upd H4 p (.ins C dx (putF "_sizes" (.ref sd) []))) p (.ins C dx (putF "room" (.int (r : Int)) (putF "_sizes" (.ref sd) [])))) = H5 at b5 ep5 ⊢
      have bH5 : But p H H5 := (Same.but s34).trans b5
      have il5 : InLines H5 l cs r ps := ⟨bH5 _ _ (ne_of il.at_ hp (by intro z; cases z)) il.at_, fun q hq => ⟨bH5 _ _ (ne_of (il.each q hq).1 hp (by intro z; cases z)) (il.each q hq).1, (il.each q hq).2⟩, il.perm⟩
      have l6 := il.len g
      have lp := flat_len fun p hp => (il.each p hp).2.1
      have each : ∀ p ∈ ps, p.2.length ≤ 6 := fun p hp => Nat.le_trans (flat_part hp) l6
      have wl : ∀ {a : Addr}, Walk (Itl K a) ps.length (fun H => SqL K H a (ps.map fun p => V.ref p.1)) (YAt (ps.map fun p => V.ref p.1)) := fun {a} => (walk_list (K := K) (a := a) (xs := ps.map fun p => V.ref p.1) |> fun z => by rw [List.length_map] at z; exact z)
      refine ⟨_, rfl, l, rfl, ⟨_, SqL.of il5.at_⟩, fun D hD => lc_ad ps wl hD (fun p v H => ∃ t, v = .ref t ∧ H t = some (.tup ((srt p.2).map V.str))) (by omega) (fun H6 s6 => SqL.of (s6 _ _ il5.at_)) ?_ ?_⟩
      · rintro i a x H6 H7 ha s6 ⟨acc, hacc⟩ ⟨rfl, hx⟩ R hR
        rw [List.getElem?_map, ha] at hx
        obtain rfl : V.ref a.1 = x := Option.some.inj hx
        have hm := List.mem_of_getElem? ha
        obtain ⟨h1, h2, h3⟩ := il5.each a hm
        refine ⟨rfl, _, rfl, a.1, a.2, rfl, SqL.of (s6 _ _ h1), by have := each a hm; omega, fun ys q hy1 hy2 hq => ⟨q, _, rfl, .inl ⟨SqL.of upd_same, fun t ht => ?_⟩⟩⟩
        obtain rfl : ys = srt a.2 := srt_of hy1 hy2
        have sq := same_new (o := .lst ((srt a.2).map V.str)) hq
        refine hR (.ref t) _ (sq.trans (same_new ht)) fun H8 b8 => ⟨t, rfl, b8 t _ (ne_of_none (sq _ _ hacc) ht).symm upd_same⟩
      · intro H6 xs s6 hL hlen hpr
        obtain ⟨qs, rfl, eqs, hqs⟩ := qs_of (H := H6) (ps.map fun p => srt p.2) xs (by rw [hlen, List.length_map]) fun i ws v h1 h2 => by
          rw [List.getElem?_map] at h1
          cases e : ps[i]? with
          | none => rw [e] at h1; cases h1
          | some a =>
            rw [e] at h1
            obtain rfl : srt a.2 = ws := Option.some.inj h1
            exact hpr i a v e h2
        have qne : ∀ q ∈ qs, q.2 ≠ [] := fun q hq z => by
          have hm : q.2 ∈ qs.map Prod.snd := List.mem_map_of_mem hq
          rw [eqs] at hm
          obtain ⟨a, ha, ea⟩ := List.mem_map.mp hm
          have := (srt_perm a.2).length_eq
          rw [show srt a.2 = [] from ea.trans z] at this
          exact (il.each a ha).2.1 (List.length_eq_zero_iff.mp this.symm)
        rw [show ∀ σ H Q, tNil σ H Q = Q [] H from fun _ _ _ => rfl]
        refine lines_sorted (K := K) hL hqs (by rw [List.length_map] at hlen; omega) qne fun q2 rs hq2 hrs hin => ⟨q2, _, rfl, .inl ⟨SqL.of upd_same, fun t ht => ?_⟩⟩
        have s7 : Same H5 (upd (upd H6 q2 (.lst (rs.map fun q => V.ref q.1))) t (.tup (rs.map fun q => V.ref q.1))) := s6.trans ((same_new hq2).trans (same_new ht))
        have lt : LinesAt (upd (upd H6 q2 (.lst (rs.map fun q => V.ref q.1))) t (.tup (rs.map fun q => V.ref q.1))) t rs := ⟨upd_same, fun q hq => (same_new hq2).trans (same_new ht) _ _ (hqs q (hin q hq))⟩
        generalize (upd (upd H6 q2 (.lst (rs.map fun q => V.ref q.1))) t (.tup (rs.map fun q => V.ref q.1))) = H7 at s7 lt ⊢
        have hp7 := s7 _ _ ep5
        refine ⟨_, rfl, p, C, dx, _, rfl, hp7, TL.cl, TL.nL, (by show 2 < 1000; decide), ?_⟩
        have b8 : But p H7 (upd H7 p (.ins C dx (putF "lines" (.ref t) (putF "room" (.int (r : Int)) (putF "_sizes" (.ref sd) []))))) := (But.refl p H7).put
        have ep8 : (upd H7 p (.ins C dx (putF "lines" (.ref t) (putF "room" (.int (r : Int)) (putF "_sizes" (.ref sd) []))))) p = some (.ins C dx (putF "lines" (.ref t) (putF "room" (.int (r : Int)) (putF "_sizes" (.ref sd) [])))) := upd_same
        have tp : t ≠ p := ne_of lt.1 hp7 (by intro z; cases z)
        have lt8 : LinesAt (upd H7 p (.ins C dx (putF "lines" (.ref t) (putF "room" (.int (r : Int)) (putF "_sizes" (.ref sd) []))))) t rs := ⟨b8 _ _ tp lt.1, fun q hq => b8 _ _ (ne_of (lt.2 q hq) hp7 (by intro z; cases z)) (lt.2 q hq)⟩
        generalize (upd H7 p (.ins C dx (putF "lines" (.ref t) (putF "room" (.int (r : Int)) (putF "_sizes" (.ref sd) []))))) = H8 at b8 ep8 lt8 ⊢
        have bH8 : But p H H8 := (bH5.then s7).trans b8
        have b48 : But p H4 H8 := (b5.then s7).trans b8
        have sdp : sd ≠ p := ne_of e4 hp4 (by intro z; cases z)
        have esd8 := b48 _ _ sdp e4
        have els : rs.map Prod.snd = linesOf ps := by rw [hrs, eqs]; rfl
        have hll : (rs.map Prod.snd).flatten.length ≤ 6 := by
          have e1 : (rs.map Prod.snd).Perm (ps.map fun p => srt p.2) := by rw [els]; exact sortL_perm _
          have e2 := e1.flatten.length_eq
          have e3 := flat_srt ps
          omega
        refine ⟨_, rfl, p, C, dx, _, _, rfl, ep8, TL.cl, TL.nL, by rw [lookup_putF, if_pos rfl], t, _, rfl, SqT.of lt8.1, fun nd hnd => ?_⟩
        have wt : Walk (IteT K t) rs.length (fun H => SqT K H t (rs.map fun q => V.ref q.1)) (YPair (fun i => some (.int (i : Nat))) (fun i => (rs.map fun q => V.ref q.1)[i]?)) := (walk_enumT (K := K) (a := t) (xs := rs.map fun q => V.ref q.1) |> fun z => by rw [List.length_map] at z; exact z)
        refine ⟨fun i m H' => m = rs.length - i ∧ i ≤ rs.length ∧ Same H8 H' ∧ H' nd = some (.dK (mergeK [] (numPr ((rs.map Prod.snd).take i)))), ⟨rs.length, by simp, Nat.zero_le _, same_new hnd, upd_same⟩, ?_⟩
        rintro i m H9 ⟨rfl, hi, s9, e9⟩
        have sq9 : SqT K H9 t (rs.map fun q => V.ref q.1) := SqT.of (s9 _ _ lt8.1)
        by_cases hlt : i < rs.length
        · have ha : rs[i]? = some rs[i] := List.getElem?_eq_getElem hlt
          generalize rs[i] = a at ha
          have hm := List.mem_of_getElem? ha
          refine .inr ⟨wt.goes i H9 hlt sq9, fun H' => Same H8 H' ∧ H' nd = some (.dK (mergeK [] (numPr ((rs.map Prod.snd).take (i + 1))))), fun H' q => ⟨rs.length - (i + 1), by omega, rfl, hlt, q⟩, fun x H10 y => ?_⟩
          obtain ⟨T1, x1, x2, rfl, hT1, rfl, hx1, hx2⟩ := wt.yields i H9 x H10 hlt sq9 y
          obtain rfl : V.int (i : Nat) = x1 := Option.some.inj hx1
          replace hx2 : (rs.map fun q => V.ref q.1)[i]? = some x2 := hx2
          rw [List.getElem?_map, ha] at hx2
          obtain rfl : V.ref a.1 = x2 := Option.some.inj hx2
          have sT := s9.trans (same_new (o := .tup [.int (i : Nat), .ref a.1]) hT1)
          have eT : (upd H9 T1 (.tup [.int (i : Nat), .ref a.1])) nd = some (.dK (mergeK [] (numPr ((rs.map Prod.snd).take i)))) := same_new hT1 _ _ e9
          have tT : (upd H9 T1 (.tup [.int (i : Nat), .ref a.1])) T1 = some (.tup [.int (i : Nat), .ref a.1]) := upd_same
          generalize (upd H9 T1 (.tup [.int (i : Nat), .ref a.1])) = H10 at sT eT tT ⊢
          have al : (rs.map Prod.snd)[i]? = some a.2 := by rw [List.getElem?_map, ha]; rfl
          have wa : Walk (Itt K a.1) a.2.length (fun H => SqT K H a.1 (a.2.map V.str)) (YAt (a.2.map V.str)) := (walk_tup (K := K) (a := a.1) (xs := a.2.map V.str) |> fun z => by rw [List.length_map] at z; exact z)
          have few2 : (numPr ((rs.map Prod.snd).take i)).length + a.2.length ≤ 6 := by
            have e1 := numPr_len (ls := (rs.map Prod.snd).take (i + 1))
            rw [numPr_step al, List.length_append, List.length_map] at e1
            have e2 : ((rs.map Prod.snd).take (i + 1)).flatten.length ≤ (rs.map Prod.snd).flatten.length := by
              conv => rhs; rw [← List.take_append_drop (i + 1) (rs.map Prod.snd), List.flatten_append, List.length_append]
              omega
            omega
          refine ⟨T1, _, rfl, SqT.of tT, rfl, _, _, rfl, _, _, rfl, rfl, rfl, _, rfl, a.1, rfl, ⟨_, SqT.of (sT _ _ (lt8.2 a hm))⟩, fun j n H' => n = a.2.length - j ∧ j ≤ a.2.length ∧ Same H8 H' ∧ H' nd = some (.dK (mergeK [] (numPr ((rs.map Prod.snd).take i) ++ (a.2.take j).map fun z => (Sum.inr z, V.int (i : Int))))), ⟨a.2.length, by simp, Nat.zero_le _, sT, by rw [eT]; simp⟩, ?_⟩
          rintro j n H11 ⟨rfl, hjl, s11, e11⟩
          have sq11 : SqT K H11 a.1 (a.2.map V.str) := SqT.of (s11 _ _ (lt8.2 a hm))
          by_cases hl2 : j < a.2.length
          · have hz : a.2[j]? = some a.2[j] := List.getElem?_eq_getElem hl2
            generalize a.2[j] = z at hz
            refine .inr ⟨wa.goes j H11 hl2 sq11, fun H' => Same H8 H' ∧ H' nd = some (.dK (mergeK [] (numPr ((rs.map Prod.snd).take i) ++ (a.2.take (j + 1)).map fun z => (Sum.inr z, V.int (i : Int))))), fun H' q => ⟨a.2.length - (j + 1), by omega, rfl, hl2, q⟩, fun x H12 y => ?_⟩
            obtain ⟨rfl, hx⟩ := wa.yields j H11 x H12 hl2 sq11 y
            rw [List.getElem?_map, hz] at hx
            obtain rfl : V.str z = x := Option.some.inj hx
            refine ⟨rfl, _, rfl, _, rfl, _, Sum.inr z, rfl, e11, ?_, same_upd s11 hnd, ?_⟩
            · have e1 := length_mergeK (numPr ((rs.map Prod.snd).take i) ++ (a.2.take j).map fun z => ((Sum.inr z, V.int (i : Int)) : Key × V)) []
              rw [List.length_append, List.length_map, List.length_take] at e1
              rw [sizeLine_eq]
              simp only [List.length_nil] at e1
              omega
            · rw [upd_same, List.take_add_one, hz, Option.toList_some, List.map_append, ← List.append_assoc, List.map_cons, List.map_nil, merge_snoc]
          · have e : j = a.2.length := by omega
            subst e
            rw [List.take_length, ← numPr_step al] at e11
            exact .inl ⟨wa.stops H11 sq11, s11, e11⟩
        · have e : i = rs.length := by omega
          subst e
          rw [List.take_of_length_le (by rw [List.length_map]; exact Nat.le_refl _), els] at e9
          have ep9 := s9 _ _ ep8
          refine .inl ⟨wt.stops H9 sq9, _, rfl, p, C, dx, _, rfl, ep9, TL.cl, TL.nN, (by show 3 < 1000; decide), ?_⟩
          have b9 : But p H9 (upd H9 p (.ins C dx (putF "_numbers" (.ref nd) (putF "lines" (.ref t) (putF "room" (.int (r : Int)) (putF "_sizes" (.ref sd) [])))))) := (But.refl p H9).put
          have hnp : nd ≠ p := ne_of e9 ep9 (by intro z; cases z)
          refine k _ sd nd ((bH8.then s9).trans b9) (none_back s3 hsd) (none_but bH8 ep8 hnd) (ne_of_none esd8 hnd) ⟨dx, t, rs, by rw [upd_same, lflds_put], b9 _ _ sdp (s9 _ _ esd8), b9 _ _ hnp e9, ⟨b9 _ _ tp (s9 _ _ lt8.1), fun q hq => b9 _ _ (ne_of (s9 _ _ (lt8.2 q hq)) ep9 (by intro z; cases z)) (s9 _ _ (lt8.2 q hq))⟩, els⟩
end
end Vf

set_option maxRecDepth 100000
set_option maxHeartbeats 4000000
namespace Vf
open PySem PySem.Spec PyProof.Rows L2
/-- nothing is being printed -/
abbrev Calm (A : Around) : Prop := A.guards = some []
structure FnG (P : Program) (w : World) (K : PySem.W.Frag) (mg : Str → Option Value) (base : Heap) (CX : CXT) (k : Nat) (f : Addr) (fd : FuncData) (ps : List Str) (sp : Sp) : Prop where
  len : ∀ vs H Q E, sp vs H Q E → vs.length = ps.length
  run : ∀ (A : Around) (outer : List Env) (s : Shared) (H : Hp) (args : Args) (us : List Value) (vs : List V) (Q : VK) (E : XK), Calm A → Room k A →
    Env0 P w K mg base A outer s H → BindsTo s fd args (ps.zip us) → Vals vs us → sp vs H Q E → codeAny (model P w) A (.call (.ref f) args) (CR CX outer P w H s Q E) s
section
variable {P : Program} {w : World} {K : PySem.W.Frag} {mg : Str → Option Value} {base : Heap}
theorem FnG.of {CX : CXT} {k : Nat} {f : Addr} {fd : FuncData} {ps : List Str} {sp : Sp} (F : FnOk P w K mg base CX k f fd ps sp) : FnG P w K mg base CX k f fd ps sp :=
  ⟨F.len, fun A outer s H args us vs Q E _ => F.run A outer s H args us vs Q E⟩
/-- a def by its body; both ways are told of what goes on around it -/
theorem Fun.okG {x qual : Str} {st : Stmt} {f : Addr} {fd : FuncData} {N ps : List Str} {k : Nat} {sp : Sp} (F : Fun K x qual st f fd) (S : FnScope N ps (defScope st)) (hlen : ∀ vs H Q E, sp vs H Q E → vs.length = ps.length)
    (hbody : ∀ (cdv : Value) (A : Around) (outer : List Env) (s : Shared) (H : Hp) (vs : List V) (Q : VK) (E : XK), Calm (A.deeper (envOfC qual (defScope st) s.heap.objs.size f cdv)) →
      Room k (A.deeper (envOfC qual (defScope st) s.heap.objs.size f cdv)) → sp vs H Q E →
      ∃ t, PSs (cxOf CX0 P w K mg base N qual (defScope st) f cdv A outer s H E).nox (defBody st) t ∧ t { nx := fun _ H' => Q .non H', rt := Q } (start N vs) H) :
    FnG P w K mg base CX0 (k + 1) f fd ps sp := by
  obtain ⟨oc, od, kV, doc, pm, an, cdv, ct, osl, rfl, hlook, hcode⟩ := F.ex
  refine ⟨hlen, fun A outer s H args us vs Q E hcalm hroom env bnd rel q => ?_⟩
  have below := fun b o (e : base.get? b = some o) => (env.bs b o e).1
  have inK := env.mod.kin.keeps below
  have kinds : ∀ y ∈ ps.zip us, (defScope st).names.lookup y.1 = some .local ∨ ((defScope st).names.lookup y.1 = some .cell ∧ ((cellsFrom (s.heap.objs.size + 1) (defScope st).names []).lookup y.1).isSome = true) := by
    rintro ⟨n, v⟩ hy
    exact (S.par n (List.of_mem_zip hy).1).imp id fun c => ⟨c, PySem.W.cellsFrom_some _ _ _ (.inl c)⟩
  refine codeAny_call_function hroom.depth (inK _ _ hlook) rfl S.co S.gen rfl (PySem.W.codeRec_of inK hcode) (bnd _ _ _ _ (wpAny_newFunctionEnv_cells S.kind kinds fun env' he s1 made => ?_))
  subst he
  refine ⟨(env.mod.nolimit.keeps below).keeps made.toInCall.keep, codeAny_func ?_⟩
  obtain ⟨t, hps, ht⟩ := hbody cdv A outer s H vs Q E hcalm (hroom.deeper _) q
  have inv := inv_start (CX := CX0) (E := E) S hroom.hd env (hlen _ _ _ _ q) rel made
  refine wpAny_mono (hps.nox.run [] s1 (start N vs) H _ inv ht) (fun fl s' out => ?_) fun _ _ out => out
  cases fl with
  | next =>
    obtain ⟨σ', H', J, q'⟩ := out
    exact ⟨V.non, H', J.os, J.bare, J.base, J.hok, rfl, q'⟩
  | ret u =>
    obtain ⟨v, σ', H', J, rv, q'⟩ := out
    exact ⟨v, H', J.os, J.bare, J.base, J.hok, rv, q'⟩
  | brk =>
    obtain ⟨_, _, _, no⟩ := out
    exact False.elim no
  | cont =>
    obtain ⟨_, _, _, no⟩ := out
    exact False.elim no
end
def OkG (P : Program) (w : World) (K : PySem.W.Frag) (mg : Str → Option Value) (base : Heap) (CX : CXT) (x : Str) (ps : List Str) (k : Nat) (sp : Sp) : Prop :=
  ∃ (f : Addr) (fd : FuncData), mg x = some (.ref f) ∧ PySem.W.keepIn K (.ref f) = true ∧ Binds K fd ps [] ∧ FnG P w K mg base CX k f fd ps sp
section
variable {X : Cx} {CX : CXT} {k : Nat} {f : Addr} {fd : FuncData} {ps : List Str} {sp : Sp} {ds : List Value} {dvs : List V} {E : XK} {x : Str} {p pos : Pos} {e : Expr} {es : List Expr} {t : TA}
theorem run_fnG {pins : List (Addr × Obj)} {σ : L2.St} {H : Hp} {s : Shared} {Q : VK} {us : List Value} {vs : List V} (F : FnG X.prog X.w X.K X.mg X.base CX k f fd ps sp) (hgd : Calm X.A) (hr : Room k X.A) (hb : Binds X.K fd ps ds) (hd : Vals dvs ds) (hx : Passes CX X E)
    (I : Inv X pins σ H s) (r : Vals vs us) (h : sp (vs ++ dvs) H Q E) : wpAny (model X.prog X.w) X.A (call (.ref f) us) (EP X pins σ Q) X.xe s := by
  have all := r.append hd
  have many : (us ++ ds).length = ps.length := all.length.symm.trans (F.len _ _ _ _ h)
  refine wpAny_call (codeAny_mono (F.run X.A X.stack s H ⟨us, []⟩ (us ++ ds) (vs ++ dvs) Q E hgd hr I.env0 (hb s us I.kIn many) all h) fun out s' q => ?_)
  match out, q with
  | .error e, q => exact hx pins σ H s e s' I q
  | .ok (.ret u), q => exact I.after q
  | .ok .next, q => exact (q : False).elim
  | .ok .brk, q => exact (q : False).elim
  | .ok .cont, q => exact (q : False).elim
theorem pe_fnG (G : OkG X.prog X.w X.K X.mg X.base CX x ps k sp) (hgd : Calm X.A) (hr : Room k X.A) (hg : Gl X x) (hx : Passes CX X E)
    (ha : PA X (e :: es) t) (hdb : (x == ("__debug__" : Str)) = false := by decide) (hst : starEach (e :: es) X.env = (false, eval e X.env) :: starEach es X.env := by rfl) (hpl : (backTo pos (starEach es X.env)).any (·.1) = false := by rfl) :
    PE X (.Call (.Name x p) (e :: es) [] pos) (tCall sp [] E t) := by
  obtain ⟨f, fd, hm, hk, hb, F⟩ := G
  refine ⟨fun pins s σ H Q I h => wpAny_Call_Name_kw (ld_glob I hg hm ?_ hdb)⟩
  refine PySem.W.callWith_K (h₀ := X.base) I.ok.mod.kin hk (thn (ha.run pos pins s σ H _ I h) ?_) hst hpl
  rintro us s1 ⟨vs, H1, I1, rel, q⟩
  exact ⟨I1.kIn, run_fnG F hgd hr hb .nil hx I1 rel q⟩
end
end Vf

set_option maxRecDepth 100000
set_option maxHeartbeats 4000000
namespace Vf
open PySem PySem.Spec PyProof.Rows L2
section
variable {X : Cx} {pins : List (Addr × Obj)} {σ : L2.St} {H : Hp} {s : Shared}
theorem ty_looks {x : V} {u t : Value} (M : Model) (I : Inv X pins σ H s) (rx : RelV x u) (ty : TyX X.K H x t) : PySem.W.Looks M s.heap (typeOf u) t := by
  obtain ⟨Pz, Z, p, _⟩ := kit_of I rx ty
  exact Z.ty M s.heap I.kIn p
/-- a callee that runs somewhere within what goes on -/
theorem run_at {CX : CXT} {n : Nat} {f : Addr} {fd : FuncData} {ps : List Str} {sp : Sp} {E : XK} {Q : VK} {A : Around} {vs : List V} {us : List Value} (F : FnOk X.prog X.w X.K X.mg X.base CX n f fd ps sp) (fr : A.frames = X.A.frames) (room : Room n A)
    (hb : Binds X.K fd ps []) (hx : Passes CX X E) (I : Inv X pins σ H s) (r : Vals vs us) (h : sp vs H Q E) : wpAny (model X.prog X.w) A (call (.ref f) us) (EP X pins σ Q) X.xe s := by
  have e0 : Env0 X.prog X.w X.K X.mg X.base A X.stack s H :=
    let e := I.env0
    ⟨fr.trans e.frames, e.mod, e.bs, e.bsz, e.funs, e.frf, e.hok, e.bare⟩
  have many : (us ++ []).length = ps.length := by
    rw [List.append_nil]
    exact r.length.symm.trans (F.len _ _ _ _ h)
  have bnd := hb s us I.kIn many
  rw [List.append_nil] at bnd
  refine wpAny_call (codeAny_mono (F.run A X.stack s H ⟨us, []⟩ us vs Q E room e0 bnd r h) fun out s' q => ?_)
  match out, q with
  | .error e, q => exact hx pins σ H s e s' I q
  | .ok (.ret u), q => exact I.after q
  | .ok .next, q => exact (q : False).elim
  | .ok .brk, q => exact (q : False).elim
  | .ok .cont, q => exact (q : False).elim
end
section
variable {prog : Program} {w : World} {A : Around} {E : Value → Shared → Prop} {s : Shared} {K : PySem.W.Frag} {x C f : Addr} {ox : Obj} {od : Option Obj}
theorem ifBound_ne {args : List Value} {Q : Option Value → Shared → Prop} (inK : K.In s.heap) (J : PySem.W.InstAt s.heap x ox C od) (ne : PySem.W.findIn K (.ref C) "__ne__" = some (some (.builtin "object.__ne__")))
    (h : wpAny (model prog w) A (call (.builtin "object.__ne__") (.ref x :: args)) (fun v => Q (some v)) E s) : wpAny (model prog w) A (callSpecialIfBound? (.ref x) "__ne__" args) Q E s := by
  simp only [callSpecialIfBound?, bindSpecialIfBound?]
  have told : wpAny (model prog w) A (call (.builtin "object.__ne__") ([.ref x] ++ args) >>= fun v => pure (some v)) Q E s := wpAny_bind (wpAny_mono h (fun _ _ q => wpAny_pure q) fun _ _ q => q)
  refine wpAny_holding (wpAny_bind (wpAny_bind (wpAny_bind (J.type.here ((PySem.W.looks_findIn inK ne).here (wpAny_bind (wpAny_askSetting (wpAny_ite ?_))))))))
  split
  · exact wpAny_bind (wpAny_of_eq (F.cmp_object.ne.bind _) (wpAny_pure (by exact told)))
  · exact wpAny_tryCatch (wpAny_bind (wpAny_of_eq (F.cmp_object.ne.bind _) (wpAny_pure (by exact told))))
theorem entry_ne {b : Value} {Q : Fin → Shared → Prop} (room : A.units < cLine) (inK : K.In s.heap) (J : PySem.W.InstAt s.heap x ox C od) (eq : PySem.W.findIn K (.ref C) "__eq__" = some (some (.ref f))) (isf : PySem.W.isFn K (.ref f) = true)
    (h : wpAny (model prog w) A (call (.ref f) [.ref x, b]) (fun v s' => ∃ r, v = .bool r ∧ Q (.done (.ret (.bool (!r)))) s') E s) : wpAny (model prog w) A (Builtin.«object.__ne__» ⟨[.ref x, b], []⟩) Q E s := by
  unfold Builtin.«object.__ne__»
  repeat (first
    | with_reducible refine wpAny_cRoomFor room ?_
    | (refine wpAny_bind (m := callSpecialIfBound? (.ref x) (Str.ofString "__eq__") [b])
        (PySem.W.ifBound_K inK J eq isf (wpAny_mono h (fun v s' told => by
          obtain ⟨r, rfl, q⟩ := told
          repeat (first | exact q | exact wpAny_pure q | exact wpAny_truthy_bool q | (refine wpAny_bind (m := truthy (.bool _)) (wpAny_truthy_bool ?_)) | wp_step)) fun _ _ q => q)))
    | wp_step)
theorem ne_own {b tb : Value} {Q : Value → Shared → Prop} (room : A.units + 1 < cLine) (inK : K.In s.heap) (J : PySem.W.InstAt s.heap x ox C od) (obj : PySem.W.mroIn K C (.type "object") = some true)
    (ne : PySem.W.findIn K (.ref C) "__ne__" = some (some (.builtin "object.__ne__"))) (eq : PySem.W.findIn K (.ref C) "__eq__" = some (some (.ref f))) (isf : PySem.W.isFn K (.ref f) = true)
    (hb : PySem.W.Looks (model prog w) s.heap (typeOf b) tb) (nf : PySem.W.notFirst K C tb = true)
    (h : wpAny (model prog w) A.in1 (call (.ref f) [.ref x, b]) (fun v s' => ∃ r, v = .bool r ∧ Q (.bool (!r)) s') E s) : wpAny (model prog w) A (richCompare .NotEq (.ref x) b) Q E s := by
  have asked : wpAny (model prog w) A (tryCompare (.ref x) "__ne__" b) (fun o s' => ∃ r : Bool, o = some (.bool r) ∧ Q (.bool r) s') E s := by
    unfold tryCompare
    refine wpAny_bind (ifBound_ne inK J ne (wpAny_call (codeAny_call_builtin F.cmp_object.ne.plain F.cmpEntry_ne (PySem.W.check_slot F.cmpKind_ne F.cmpSplit_ne (J.type.andThen (PySem.W.looks_mroIn inK obj)) (F.cmpArgs_ne _ _) ?_))))
    refine entry_ne (A := A.in1) room inK J eq isf (wpAny_mono h (fun v s' told => ?_) fun _ _ q => q)
    obtain ⟨r, rfl, q⟩ := told
    exact ⟨r, rfl, wpAny_pure ⟨!r, rfl, q⟩⟩
  unfold richCompare
  simp only [oneThing_ref]
  refine wpAny_holding (wpAny_bind (wpAny_cRoomFor (Nat.lt_of_succ_lt room) ?_))
  rw [cmpInfo_NotEq]
  refine wpAny_bind (J.type.here (wpAny_bind (hb.here ?_)))
  have go : wpAny (model prog w) A (tryCompare (.ref x) "__ne__" b) (fun o s' => ∃ r : Bool, o = some (.bool r) ∧ Q (.bool r) s') E s := asked
  split
  · rename_i apart
    have later : PySem.W.subIn K tb (.ref C) = some false := by
      rcases Bool.or_eq_true_iff.mp nf with e | e
      · rw [beq_iff_eq.mp e] at apart
        simp at apart
      · exact beq_iff_eq.mp e
    refine wpAny_bind ((PySem.W.looks_subIn inK later).here ?_)
    simp only [Bool.false_eq_true, if_false]
    refine wpAny_bind (wpAny_mono go (fun o s' z => ?_) fun _ _ q => q)
    obtain ⟨r, rfl, q⟩ := z
    exact wpAny_pure q
  · refine wpAny_bind (wpAny_pure ?_)
    simp only [Bool.false_eq_true, if_false]
    refine wpAny_bind (wpAny_mono go (fun o s' z => ?_) fun _ _ q => q)
    obtain ⟨r, rfl, q⟩ := z
    exact wpAny_pure q
end
/-- what the text says of a class with an own __eq__ at f -/
structure OwnC (K : PySem.W.Frag) (C f : Addr) (fd : FuncData) (ps : List Str) : Prop where
  eq : PySem.W.findIn K (.ref C) "__eq__" = some (some (.ref f))
  isf : PySem.W.isFn K (.ref f) = true
  ne : PySem.W.findIn K (.ref C) "__ne__" = some (some (.builtin "object.__ne__"))
  obj : PySem.W.mroIn K C (.type "object") = some true
  bnd : Binds K fd ps []
/-- o == y, o != y: neg -/
def rOwn (K : PySem.W.Frag) (C : Addr) (sp : Sp) (E : XK) (neg : Bool) : R2 := fun x y H Q => ∃ a dx fs t, x = .ref a ∧ H a = some (.ins C dx fs) ∧ TyX K H y t ∧ PySem.W.notFirst K C t = true ∧
  sp [.ref a, y] H (fun v H' => ∃ b, v = .bl b ∧ Q (.bl (b != neg)) H') E
section
variable {X : Cx} {CX : CXT} {n : Nat} {C f : Addr} {fd : FuncData} {ps : List Str} {sp : Sp} {E : XK}
theorem op_ownEq (F : FnOk X.prog X.w X.K X.mg X.base CX n f fd ps sp) (O : OwnC X.K C f fd ps) (hr : Room n X.A) (hx : Passes CX X E) : OpR X (compareOp .Eq) (rOwn X.K C sp E false) := by
  intro pins s σ H x y v u Q I rx ry h
  obtain ⟨a, dx, fs, t, rfl, ha, ty, nf, h⟩ := h
  obtain rfl : v = Value.ref a := rx
  obtain ⟨mA, J, _⟩ := ins_get I.hok ha
  obtain ⟨od, J, _⟩ := J.look
  obtain ⟨m, fr⟩ := I.fr
  have un := hr.un
  refine PySem.W.cmp_K (op := .Eq) (tb := t) (by omega) fr I.ok.mod.kin J (ty_looks _ I ry ty) nf O.eq O.isf ?_
  refine wpAny_mono (run_at (A := X.A) (vs := [.ref a, y]) (us := [.ref a, u]) F rfl hr O.bnd hx I (.cons rfl (.cons ry .nil)) h) (fun w' s' told => ?_) fun _ _ q => q
  obtain ⟨z, H', I', rz, b, rfl, q⟩ := told
  obtain rfl : w' = Value.bool b := rz
  refine ⟨.bl b, H', I', rfl, ?_⟩
  simpa using q
theorem op_ownNe (F : FnOk X.prog X.w X.K X.mg X.base CX n f fd ps sp) (O : OwnC X.K C f fd ps) (hr : Room (n + 1) X.A) (hx : Passes CX X E) : OpR X (compareOp .NotEq) (rOwn X.K C sp E true) := by
  intro pins s σ H x y v u Q I rx ry h
  obtain ⟨a, dx, fs, t, rfl, ha, ty, nf, h⟩ := h
  obtain rfl : v = Value.ref a := rx
  obtain ⟨mA, J, _⟩ := ins_get I.hok ha
  obtain ⟨od, J, _⟩ := J.look
  have un := hr.un
  refine ne_own (A := X.A) (by omega) I.kIn J O.obj O.ne O.eq O.isf (ty_looks _ I ry ty) nf ?_
  refine wpAny_mono (run_at (A := X.A.in1) (vs := [.ref a, y]) (us := [.ref a, u]) F rfl hr.in1 O.bnd hx I (.cons rfl (.cons ry .nil)) h) (fun w' s' told => ?_) fun _ _ q => q
  obtain ⟨z, H', I', rz, b, rfl, q⟩ := told
  obtain rfl : w' = Value.bool b := rz
  refine ⟨b, rfl, .bl (!b), H', I', rfl, ?_⟩
  have e : (b != true) = !b := by cases b <;> rfl
  rw [← e]
  exact q
end
end Vf

set_option maxRecDepth 100000
set_option maxHeartbeats 4000000
namespace Vf
open PySem PySem.Spec PyProof.Rows L2
/-- what the text says of a static method that is reached through an object -/
structure SInst (K : PySem.W.Frag) (C : Addr) (m : Str) (p g : Addr) : Prop where
  pg : PySem.W.plainGet K C Str.empty = true
  ic : PySem.W.isClsIn K C = true
  at_ : PySem.W.findIn K (.ref C) m = some (some (.ref p))
  ty : PySem.W.typeIn K (.ref p) = some (.type "staticmethod")
  get : PySem.W.specialIn K (.ref p) "__get__" = some (some (.builtin "staticmethod.__get__"))
  tk : PySem.W.takesIn K (.ref p) = some false
  cp : PySem.W.copiedNames.contains m = false
  rc : ∃ rest, PySem.W.recIn K p "staticmethod" = some (.ref g :: rest)
  kp : PySem.W.keepIn K (.ref g) = true
theorem SInst.get' {K : PySem.W.Frag} {C : Addr} {m : Str} {p g : Addr} (k : SInst K C m p g) : PySem.W.plainGet K C m = true := k.pg
def tSI (C : Addr) (m : Str) (sp : Sp) (E : XK) (ta : TE) (t : TA) : TE := fun σ H Q => ta σ H fun x H1 => ∃ a dx fs, x = .ref a ∧ H1 a = some (.ins C dx fs) ∧ fs.lookup m = none ∧ t σ H1 fun vs H2 => sp vs H2 Q E
section
variable {X : Cx} {CX : CXT} {k : Nat} {C p g : Addr} {fd : FuncData} {ps : List Str} {sp : Sp} {E : XK} {o e : Expr} {es : List Expr} {m : Str} {pos apos : Pos} {ta : TE} {t : TA} {pl : Sem Bool}
theorem pe_sinst (he : PE X o ta) (c : SInst X.K C m p g) (F : FnOk X.prog X.w X.K X.mg X.base CX k g fd ps sp) (hr : Room k X.A) (hb : Binds X.K fd ps []) (hx : Passes CX X E) (ha : PA X (e :: es) t)
    (hst : starEach (e :: es) X.env = (false, eval e X.env) :: starEach es X.env := by rfl) (hpl : (backTo pos (starEach es X.env)).any (·.1) = false := by rfl)
    (ht : eval (.Call (.Attribute o m apos) (e :: es) [] pos) X.env = (do
      let ov ← eval o X.env
      standAt apos.atName
      let (f, first) ← holding [ov] (getMethod ov m pl)
      callWith pos f first (backTo pos (starEach (e :: es) X.env)) (backToKw pos (keywordEach [] X.env))) := by rfl) :
    PE X (.Call (.Attribute o m apos) (e :: es) [] pos) (tSI C m sp E ta t) := by
  refine ⟨fun pins s σ H Q I h => PySem.W.methodCall_KW (pl := pl) (thn (he.run pins s σ H _ I h) ?_) ht⟩
  rintro u s1 ⟨x, H1, I1, rx, a, dx, fs, rfl, ea, own, q⟩
  obtain rfl : u = Value.ref a := rx
  obtain ⟨mA, O, rr, _, _, _⟩ := ins_get I1.hok ea
  have hn : mA m = none := RelO.none_of (by rw [← own]; exact rr m)
  obtain ⟨od, J, look⟩ := O.look
  obtain ⟨rest, rec⟩ := c.rc
  refine PySem.W.method_usual (r := some (.ref p)) I1.kIn J (PySem.W.plainGet_of c.get').1 (PySem.W.plainGet_of c.get').2 c.at_ ?_ ?_
  · simp only [Option.all_some, c.ty, Option.any_some]
    decide +kernel
  refine PySem.W.get_bind I1.kIn J (PySem.W.plainGet_of c.get').1 (ClX.find_cm c.ic c.at_ c.get c.tk c.cp (by rw [look m, hn])) (PySem.W.plainGet_of c.get').2 ?_
  refine wpAny_call (PySem.W.sm_get (s := { s1 with toks := s1.toks + 1 }) I1.kIn rec (PySem.W.handed_on rfl ?_))
  have I2 : Inv X pins σ H1 { s1 with toks := s1.toks + 1 } := I1.tok _
  refine PySem.W.callWith_K (h₀ := X.base) I.ok.mod.kin c.kp (thn (ha.run pos pins _ σ H1 _ I2 q) ?_) hst hpl
  rintro us s2 ⟨vs, H2, I3, rv, q2⟩
  exact ⟨I3.kIn, run_fn (dvs := []) F hr hb .nil hx I3 rv (by rw [List.append_nil]; exact q2)⟩
end
/-- str(o) -/
def rStrOwn (C : Addr) (sp : Sp) (E : XK) : List V → Hp → VK → Prop := fun xs H Q => ∃ a dx fs, xs = [.ref a] ∧ H a = some (.ins C dx fs) ∧ sp [.ref a] H (fun v H' => ∃ z, v = .str z ∧ Q (.str z) H') E
structure OwnS (K : PySem.W.Frag) (C f : Addr) (fd : FuncData) (ps : List Str) : Prop where
  st : PySem.W.findIn K (.ref C) "__str__" = some (some (.ref f))
  isf : PySem.W.isFn K (.ref f) = true
  bnd : Binds K fd ps []
theorem cr_strOwn {X : Cx} {CX : CXT} {n : Nat} {C f : Addr} {fd : FuncData} {ps : List Str} {sp : Sp} {E : XK} (F : FnOk X.prog X.w X.K X.mg X.base CX n f fd ps sp) (O : OwnS X.K C f fd ps) (hr : Room (n + 2) X.A) (hx : Passes CX X E) :
    CallR X (.type "str") (rStrOwn C sp E) := by
  intro pins s σ H xs us Q I r h
  obtain ⟨a, dx, fs, rfl, ha, h⟩ := h
  obtain ⟨u, rfl, r1⟩ := vals1 r
  obtain rfl : u = Value.ref a := r1
  obtain ⟨mA, J, _⟩ := ins_get I.hok ha
  obtain ⟨od, J, _⟩ := J.look
  have room : Room n X.A.in1.in1 := hr.in1.in1
  have un := room.un
  refine PySem.W.kso_call (by omega) I.kIn J O.st O.isf ?_
  refine wpAny_mono (run_at (A := X.A.in1.in1) (vs := [.ref a]) (us := [.ref a]) F rfl room O.bnd hx I (.cons rfl .nil) h) (fun w' s' told => ?_) fun _ _ q => q
  obtain ⟨z, H', I', rz, y, rfl, q⟩ := told
  obtain ⟨tk, rfl⟩ : ∃ tk, w' = Value.str y tk := rz
  exact ⟨.str y, H', I', ⟨tk, rfl⟩, q⟩
end Vf

set_option maxRecDepth 100000
set_option maxHeartbeats 8000000
namespace Vf
open PySem PySem.Spec PyProof.Rows L2
/-- what the text says of the class, for == and isinstance -/
structure TxtE (K : PySem.W.Frag) (C : Addr) : Prop where
  tyC : PySem.W.typeIn K (.ref C) = some (.type "type")
  clC : PySem.W.isClsIn K C = true
  ha : PySem.W.findIn K (.ref C) "__class__" = some (some (.builtin "object.__class__"))
  hn : PySem.W.specialIn K (.builtin "object.__class__") "__get__" = some (some (.builtin "getset_descriptor.__get__"))
  tk : PySem.W.takesIn K (.builtin "object.__class__") = some true
  obj : PySem.W.mroIn K C (.type "object") = some true
theorem kit_self {K : PySem.W.Frag} {C : Addr} : PySem.W.kitOne K (.ref C) (.ref C) = some true := by
  unfold PySem.W.kitOne
  rw [if_pos (by simp)]
theorem nf_self {K : PySem.W.Frag} {C : Addr} : PySem.W.notFirst K C (.ref C) = true := by simp [PySem.W.notFirst]
theorem ty_lay {K : PySem.W.Frag} {mg : Str → Option Value} {C : Addr} {H : Hp} {p sd nd : Addr} {cs : List (Str × Nat)} {r : Nat} {ls : List (List Str)} (T : TxtE K C) (TL : TxtL K mg C) (h : LayAt C H p sd nd cs r ls) : TyX K H (.ref p) (.ref C) := by
  obtain ⟨dx, t, qs, h1, _⟩ := h
  exact .base (.ins h1 TL.cl T.ha T.hn T.tk T.obj)
def linesD (ls : List (List Str)) : PyData := .tuple (ls.map lnD)
theorem plain_lines : ∀ {ls : List (List Str)}, (∀ ws ∈ ls, ∀ z ∈ ws, PyData.strOk z = true) → plainAll (ls.map lnD) = true
  | [], _ => rfl
  | ws :: ls, h => by
    simp only [List.map_cons, plainAll, Bool.and_eq_true]
    exact ⟨by simp only [lnD, plainD, plain_strs (h ws List.mem_cons_self)], plain_lines fun y hy => h y (List.mem_cons_of_mem _ hy)⟩
theorem depth_lines : ∀ ls : List (List Str), PyData.depthAll (ls.map lnD) ≤ 1
  | [] => by simp [PyData.depthAll]
  | ws :: ls => by
    have := depth_lines ls
    simp only [List.map_cons, PyData.depthAll, lnD, PyData.depth, depth_strs]
    omega
theorem dp_lines {K : PySem.W.Frag} {H : Hp} : ∀ {qs : List (Addr × List Str)}, (∀ q ∈ qs, H q.1 = some (.tup (q.2.map V.str))) → DpAll K H (qs.map fun q => V.ref q.1) ((qs.map Prod.snd).map lnD)
  | [], _ => .nil
  | q :: qs, h => .cons (.tup (SqT.of (h q List.mem_cons_self)) (dp_strs _)) (dp_lines fun z hz => h z (List.mem_cons_of_mem _ hz))
theorem LinesAt.dp {K : PySem.W.Frag} {H : Hp} {t : Addr} {qs : List (Addr × List Str)} (h : LinesAt H t qs) : Dp K H (.ref t) (linesD (qs.map Prod.snd)) := .tup (SqT.of h.1) (dp_lines h.2)
theorem shaped_lines {ls : List (List Str)} (h : ∀ ws ∈ ls, ∀ z ∈ ws, PyData.strOk z = true) : SeqAt.shaped (linesD ls) = true :=
  shaped_of (by simp only [linesD, plainD, plain_lines h]) (by have := depth_lines ls; simp only [linesD, PyData.depth]; omega)
section
variable {P : Program} {w : World} {K : PySem.W.Frag} {mg : Str → Option Value} {base : Heap}
def sp_Layout_cells (C : Addr) : Sp := fun vs H Q _ => ∃ (p sd nd : Addr) (cs : List (Str × Nat)) (r : Nat) (ls : List (List Str)), vs = [.ref p] ∧ LayAt C H p sd nd cs r ls ∧ ∀ q, H q = none → Q (.ref q) (upd H q (.dK (cellKv cs)))
theorem ok_Layout_cells {f C : Addr} {fd : FuncData} (F : Fun K "cells" "Layout.cells" s_Layout_cells f fd) (T : Txt0 K mg) (TL : TxtL K mg C) : FnOk P w K mg base CX0 1 f fd p_Layout_cells (sp_Layout_cells C) := by
  refine F.ok sc_Layout_cells (fun vs H Q E h => ?_) (fun cdv A outer s H vs Q E hr h => ?_)
  · obtain ⟨p, sd, nd, cs, r, ls, rfl, _⟩ := h
    rfl
  · obtain ⟨p, sd, nd, cs, r, ls, rfl, ⟨dx, t, qs, h1, h2, h3, h4, h5⟩, k⟩ := h
    refine ⟨_, pss_one (ps_ret (pe_callTy call_dictD (by rfl) T.dict (by decide +kernel) (pa_cons (pe_fld (pv 0) rfl) pa_nil))), ?_⟩
    exact ⟨_, rfl, p, C, dx, _, _, rfl, h1, TL.cl, TL.nS, lk_sizes, sd, cellKv cs, rfl, .inl h2, fun q hq => k q hq⟩
def sp_Layout_line_of (C : Addr) : Sp := fun vs H Q _ => ∃ (p sd nd : Addr) (cs : List (Str × Nat)) (r : Nat) (ls : List (List Str)) (z : Str) (n : Nat), vs = [.ref p, .str z] ∧ LayAt C H p sd nd cs r ls ∧ valV (mergeK [] (numPr ls)) (Sum.inr z) = some (.int (n : Int)) ∧ Q (.int (n : Int)) H
theorem ok_Layout_line_of {f C : Addr} {fd : FuncData} (F : Fun K "line_of" "Layout.line_of" s_Layout_line_of f fd) (T : Txt0 K mg) (TL : TxtL K mg C) : FnOk P w K mg base CX0 1 f fd p_Layout_line_of (sp_Layout_line_of C) := by
  refine F.ok sc_Layout_line_of (fun vs H Q E h => ?_) (fun cdv A outer s H vs Q E hr h => ?_)
  · obtain ⟨p, sd, nd, cs, r, ls, z, n, rfl, _⟩ := h
    rfl
  · obtain ⟨p, sd, nd, cs, r, ls, z, n, rfl, ⟨dx, t, qs, h1, h2, h3, h4, h5⟩, hv, k⟩ := h
    refine ⟨_, pss_cons (ps_if (PW.pt (pw_or (pt_not (pt_val (pe_callB call_isi (by rfl) T.isinstance boot_isinstance (pa_cons (pv 1) (pa_cons (pe_bltn (by rfl) T.str boot_str (v := .ty "str") rfl) pa_nil)))))
        (pw_or1 (pt_cmp (pc_dnotin (hu_of hr) (pv 1) (pe_fld (pv 0) rfl)))))) (pss_one ps_never) pss_nil)
      (pss_one (ps_ret (pe_dget (hu_of hr) (pe_fld (pv 0) rfl) (pv 1) (fun _ _ => rfl)))), ?_⟩
    have gg := DGet.k (k := Sum.inr z) h3
    rw [hv] at gg
    refine ⟨_, rfl, _, _, _, _, true, rfl, .ty _, .base (.str _), kit_ty (by decide +kernel), _, rfl, iteF ?_⟩
    refine ⟨_, rfl, _, rfl, p, C, dx, _, _, rfl, h1, TL.cl, TL.nN, lk_numbers, nd, _, rfl, gg, _, rfl, iteF ?_⟩
    exact ⟨_, rfl, p, C, dx, _, _, rfl, h1, TL.cl, TL.nN, lk_numbers, _, rfl, nd, _, rfl, gg, k⟩
/-- == of equal layouts -/
def sp_Layout_eq (C : Addr) : Sp := fun vs H Q _ => ∃ (p sd nd p2 sd2 nd2 : Addr) (cs : List (Str × Nat)) (r : Nat) (ls : List (List Str)), vs = [.ref p, .ref p2] ∧ LayAt C H p sd nd cs r ls ∧ LayAt C H p2 sd2 nd2 cs r ls ∧ (cs.map Prod.fst).Nodup ∧ (∀ ws ∈ ls, ∀ z ∈ ws, PyData.strOk z = true) ∧ Q (.bl true) H
theorem ok_Layout_eq {f C : Addr} {fd : FuncData} (F : Fun K "__eq__" "Layout.__eq__" s_Layout_eq f fd) (T : Txt0 K mg) (TL : TxtL K mg C) (TE : TxtE K C) : FnOk P w K mg base CX0 1 f fd p_Layout_eq (sp_Layout_eq C) := by
  refine F.ok sc_Layout_eq (fun vs H Q E h => ?_) (fun cdv A outer s H vs Q E hr h => ?_)
  · obtain ⟨p, sd, nd, p2, sd2, nd2, cs, r, ls, rfl, _⟩ := h
    rfl
  · obtain ⟨p, sd, nd, p2, sd2, nd2, cs, r, ls, rfl, l1, l2, ndp, ok, k⟩ := h
    have ty2 := ty_lay TE TL l2
    obtain ⟨dx, t, qs, h1, h2, h3, h4, h5⟩ := l1
    obtain ⟨dx2, t2, qs2, g1, g2, g3, g4, g5⟩ := l2
    refine ⟨_, pss_one (ps_ret (pe_and (pe_callB call_isi (by rfl) T.isinstance boot_isinstance (pa_cons (pv 1) (pa_cons (pe_glob (v := .ref C) rfl TL.mgC rfl) pa_nil)))
      (pe_and (pe_cmpR (op_eq_dictA (Nat.lt_of_le_of_lt (Nat.le_add_right _ 64) hr.units)) (pe_fld (pv 0) rfl) (pe_fld (pv 1) rfl) (nomark _))
      (pe_and (pe_cmpR op_eq (pe_fld (pv 0) rfl) (pe_fld (pv 1) rfl) (nomark _))
      (pe_one (pe_cmpR (op_eqD hr.units) (pe_fld (pv 0) rfl) (pe_fld (pv 1) rfl) (nomark _))))))), ?_⟩
    refine ⟨_, rfl, _, _, _, _, true, rfl, .own C, ty2, kit_self, true, rfl, iteT ?_⟩
    refine ⟨_, rfl, p, C, dx, _, _, rfl, h1, TL.cl, TL.nS, lk_sizes, _, rfl, p2, C, dx2, _, _, rfl, g1, TL.cl, TL.nS, lk_sizes, sd, sd2, _, _, rfl, rfl, h2, g2, rfl, fun q hq => ?_, true, rfl, iteT ?_⟩
    · refine ⟨val_mem (by rw [show (cellKv cs).map Prod.fst = (cs.map Prod.fst).map Sum.inr from cell_keys cs]; exact ndp.map _ fun _ _ h e => h (Sum.inr.inj e)) hq, ?_⟩
      obtain ⟨c, _, rfl⟩ := List.mem_map.mp hq
      rfl
    · refine ⟨_, rfl, p, C, dx, _, _, rfl, h1, TL.cl, TL.nR, lk_room, _, rfl, p2, C, dx2, _, _, rfl, g1, TL.cl, TL.nR, lk_room, rfl, ?_⟩
      rw [decide_eq_true (p := V.int (r : Int) = V.int (r : Int)) rfl]
      refine ⟨true, rfl, iteT ⟨_, rfl, p, C, dx, _, _, rfl, h1, TL.cl, TL.nL, lk_lines, _, rfl, p2, C, dx2, _, _, rfl, g1, TL.cl, TL.nL, lk_lines, linesD ls, linesD ls, h5 ▸ h4.dp, g5 ▸ g4.dp, shaped_lines ok, shaped_lines ok, ?_⟩⟩
      rw [eqv_self (by simp only [linesD, plainD, plain_lines ok])]
      exact k
end
end Vf

set_option maxRecDepth 100000
set_option maxHeartbeats 8000000
namespace Vf
open PySem PySem.Spec PyProof.Rows L2
def maxOf (cs : List (Str × Nat)) : Nat := (cs.map Prod.snd).foldl max 0
theorem le_fold : ∀ (l : List Nat) (a : Nat), a ≤ l.foldl max a ∧ (∀ x ∈ l, x ≤ l.foldl max a) ∧ (l.foldl max a = a ∨ l.foldl max a ∈ l)
  | [], a => ⟨Nat.le_refl _, (fun _ h => nomatch h), .inl rfl⟩
  | b :: l, a => by
    obtain ⟨h1, h2, h3⟩ := le_fold l (max a b)
    rw [List.foldl_cons]
    refine ⟨by omega, fun x hx => ?_, ?_⟩
    · rcases List.mem_cons.mp hx with rfl | hx
      · omega
      · exact h2 x hx
    · rcases h3 with h3 | h3
      · rw [h3]
        by_cases h : a ≤ b
        · right
          rw [Nat.max_eq_right h]
          exact List.mem_cons_self
        · left
          exact Nat.max_eq_left (by omega)
      · exact .inr (List.mem_cons_of_mem _ h3)
theorem maxOf_of {cs : List (Str × Nat)} {m : Int} (h1 : m ∈ cs.map fun p => (p.2 : Int)) (h2 : ∀ y ∈ cs.map (fun p => (p.2 : Int)), y ≤ m) : m = (maxOf cs : Int) := by
  obtain ⟨p, hp, rfl⟩ := List.mem_map.mp h1
  obtain ⟨_, g2, g3⟩ := le_fold (cs.map Prod.snd) 0
  have a := g2 p.2 (List.mem_map_of_mem hp)
  have b : maxOf cs ≤ p.2 := by
    unfold maxOf
    rcases g3 with g3 | g3
    · omega
    · obtain ⟨q, hq, e⟩ := List.mem_map.mp g3
      rw [← e]
      have := h2 (q.2 : Int) (List.mem_map_of_mem (f := fun p : Str × Nat => (p.2 : Int)) hq)
      omega
  have : maxOf cs = p.2 := Nat.le_antisymm b a
  omega
theorem size_le_max {cs : List (Str × Nat)} {p : Str × Nat} (h : p ∈ cs) : p.2 ≤ maxOf cs := (le_fold (cs.map Prod.snd) 0).2.1 p.2 (List.mem_map_of_mem h)
theorem size_of_mem {cs : List (Str × Nat)} (nd : (cs.map Prod.fst).Nodup) {p : Str × Nat} (h : p ∈ cs) : sizeOf? cs p.1 = some p.2 := by
  unfold sizeOf?
  induction cs with
  | nil => cases h
  | cons q r ih =>
    rw [List.map_cons, List.nodup_cons] at nd
    rw [List.find?_cons]
    rcases List.mem_cons.mp h with rfl | h
    · rw [decide_eq_true rfl]
      rfl
    · rw [decide_eq_false fun e => nd.1 (by rw [e]; exact List.mem_map_of_mem h)]
      exact ih nd.2 h
theorem maxOf_good {cs : List (Str × Nat)} (g : GoodCs cs) : 1 ≤ maxOf cs ∧ maxOf cs ≤ 8 := by
  constructor
  · cases e : cs with
    | nil => exact absurd e g.some
    | cons p r =>
      rw [← e]
      have hp : p ∈ cs := by rw [e]; exact List.mem_cons_self
      exact Nat.le_trans (g.size p hp).1 (size_le_max hp)
  · unfold maxOf
    rcases (le_fold (cs.map Prod.snd) 0).2.2 with h | h
    · omega
    · obtain ⟨q, hq, e⟩ := List.mem_map.mp h
      rw [← e]
      exact (g.size q hq).2
/-- the lines of own: a line for each cell -/
def ownLs (cs : List (Str × Nat)) : List (List Str) := sortL (cs.map fun p => [p.1])
theorem linesOf_own {cs : List (Str × Nat)} {ps : List (Addr × List Str)} (h : ps.map Prod.snd = cs.map fun p => [p.1]) : linesOf ps = ownLs cs := by
  unfold linesOf ownLs
  have e : (ps.map fun p => srt p.2) = (ps.map Prod.snd).map srt := by rw [List.map_map]; rfl
  rw [e, h, List.map_map]
  congr 1
  exact List.map_congr_left fun p _ => srt_one p.1
/-- lists of one text each -/
theorem ones_of {H : Hp} : ∀ (zs : List Str) (xs : List V), xs.length = zs.length → (∀ (i : Nat) (z : Str) (v : V), zs[i]? = some z → xs[i]? = some v → ∃ t, v = .ref t ∧ H t = some (.lst [.str z])) →
    ∃ ps : List (Addr × List Str), xs = ps.map (fun q => V.ref q.1) ∧ ps.map Prod.snd = zs.map (fun z => [z]) ∧ ∀ q ∈ ps, H q.1 = some (.lst (q.2.map V.str))
  | [], [], _, _ => ⟨[], rfl, rfl, (fun _ h => nomatch h)⟩
  | [], _ :: _, h, _ => by simp at h
  | _ :: _, [], h, _ => by simp at h
  | z :: zs, v :: xs, h, hp => by
    obtain ⟨t, rfl, ht⟩ := hp 0 z v rfl rfl
    obtain ⟨qs, e1, e2, e3⟩ := ones_of zs xs (by simpa using h) fun i a u h1 h2 => hp (i + 1) a u (by simpa using h1) (by simpa using h2)
    refine ⟨(t, [z]) :: qs, by rw [e1]; rfl, by rw [List.map_cons, e2]; rfl, fun q hq => ?_⟩
    rcases List.mem_cons.mp hq with rfl | hq
    · exact ht
    · exact e3 q hq
theorem ones_flat {ps : List (Addr × List Str)} {zs : List Str} (h : ps.map Prod.snd = zs.map fun z => [z]) : ps.flatMap Prod.snd = zs := by
  rw [List.flatMap_def, h]
  clear h
  induction zs with
  | nil => rfl
  | cons z r ih => rw [List.map_cons, List.flatten_cons, ih]; rfl
/-- lines with one cell each, as they are handed in -/
theorem ones_in {H : Hp} {l : Addr} {cs : List (Str × Nat)} {ps : List (Addr × List Str)} (g : GoodCs cs) (hl : H l = some (.lst (ps.map fun p => V.ref p.1))) (he : ∀ q ∈ ps, H q.1 = some (.lst (q.2.map V.str))) (h : ps.map Prod.snd = cs.map fun p => [p.1]) : InLines H l cs (maxOf cs) ps := by
  refine ⟨hl, fun q hq => ⟨he q hq, ?_⟩, ?_⟩
  · have hm : q.2 ∈ ps.map Prod.snd := List.mem_map_of_mem hq
    rw [h] at hm
    obtain ⟨p, hp, e⟩ := List.mem_map.mp hm
    have e' : [p.1] = q.2 := e
    rw [← e']
    refine ⟨by simp, ?_⟩
    have : sizeOfD cs p.1 = p.2 := by unfold sizeOfD; rw [size_of_mem g.nd hp]; rfl
    show (([p.1].map (sizeOfD cs)).sum) ≤ _
    rw [List.map_cons, List.map_nil, List.sum_cons, List.sum_nil, this]
    exact size_le_max hp
  · rw [ones_flat (zs := cs.map Prod.fst) (by rw [h, List.map_map]; rfl)]
end Vf

set_option maxRecDepth 100000
set_option maxHeartbeats 4000000
namespace Vf
open PySem PySem.Spec PyProof.Rows L2
/-- a target as a value -/
def tgV : Option Nat → V
  | none => .non
  | some k => .int (k : Int)
def numKvs (many : Nat) : List (Key × V) := (List.range many).map fun k => (Sum.inr (natS k), V.int (k : Int))
theorem valV_num {l : List Nat} {z : Str} : valV (l.map fun k => ((Sum.inr (natS k) : Key), V.int (k : Int))) (Sum.inr z) = (l.find? fun k => decide (natS k = z)).map fun (k : Nat) => V.int (k : Int) := by
  induction l with
  | nil => rfl
  | cons k l ih =>
    rw [List.map_cons, List.find?_cons]
    by_cases h : natS k = z
    · rw [decide_eq_true h, valV_pos (by rw [h])]
      rfl
    · rw [decide_eq_false h, valV_neg (fun e => h (Sum.inr.inj e)), ih]
theorem valV_nums {many : Nat} {z : Str} : valV (numKvs many) (Sum.inr z) = (numOf many z).map fun (k : Nat) => V.int (k : Int) := valV_num
theorem cut_one {x : V} {xs : List V} : cutV (x :: xs) (some 1) none = xs := by
  unfold cutV
  have e : HT.sIx (x :: xs).length 0 (some 1) = 1 := by
    show (if (1 : Int) < 0 then ((1 : Int) + ((xs.length + 1 : Nat) : Int)).toNat else min (1 : Int).toNat (xs.length + 1)) = 1
    rw [if_neg (by decide)]
    show min 1 (xs.length + 1) = 1
    omega
  rw [e, HT.sIx_none]
  simp
theorem cut_mid {x : V} {xs : List V} (h : xs ≠ []) : cutV (x :: xs) (some 1) (some (-1)) = xs.dropLast := by
  unfold cutV
  have hl := List.length_pos_iff.mpr h
  have e : HT.sIx (x :: xs).length 0 (some 1) = 1 := by
    show (if (1 : Int) < 0 then ((1 : Int) + ((xs.length + 1 : Nat) : Int)).toNat else min (1 : Int).toNat (xs.length + 1)) = 1
    rw [if_neg (by decide)]
    show min 1 (xs.length + 1) = 1
    omega
  have e2 : HT.sIx (x :: xs).length (x :: xs).length (some (-1)) = xs.length := by
    show (if (-1 : Int) < 0 then ((-1 : Int) + ((xs.length + 1 : Nat) : Int)).toNat else min (-1 : Int).toNat (xs.length + 1)) = xs.length
    rw [if_pos (by decide)]
    omega
  rw [e, e2, List.drop_one, List.tail_cons, List.dropLast_eq_take]
section
variable {P : Program} {w : World} {K : PySem.W.Frag} {mg : Str → Option Value} {base : Heap}
def sp_targets_of (K : PySem.W.Frag) : Sp := fun vs H Q _ => ∃ (a d : Addr) (ws : List Str) (many : Nat), vs = [.ref a, .ref d] ∧ SqL K H a (ws.map V.str) ∧ H d = some (.dK (numKvs many)) ∧ ws.length ≤ 4000 ∧ many ≤ 60 ∧
  (targetsT many ws = none → ∀ H', Same H H' → Q .non H') ∧ ∀ tg, targetsT many ws = some tg → ∀ t H', Same H H' → H t = none → H' t = some (.tup (tg.map tgV)) → Q (.ref t) H'
set_option maxHeartbeats 8000000 in
theorem ok_targets_of {f : Addr} {fd : FuncData} (F : Fun K "_targets_of" "_targets_of" s_targets_of f fd) (T : Txt0 K mg) : FnOk P w K mg base CX0 1 f fd p_targets_of (sp_targets_of K) := by
  refine F.ok sc_targets_of (fun vs H Q E h => ?_) (fun cdv A outer s H vs Q E hr h => ?_)
  · obtain ⟨a, d, ws, many, rfl, _⟩ := h
    rfl
  · obtain ⟨a, d, ws, many, rfl, hS, hD, hl, hm, kN, kS⟩ := h
    obtain ⟨tA, eA⟩ := T.arrow
    obtain ⟨tE, eE⟩ := T.end_
    have hu := hu_of hr
    refine ⟨_, pss_cons (ps_if (pt_cmpR op_eq (pe_callB call_len_seq (by rfl) T.len PySem.boot_len (pa_cons (pv 0) pa_nil)) pe_int (nomark _)) (pss_one (ps_ret (pe_tup (pa_cons pe_non pa_nil)))) pss_nil)
      (pss_cons (ps_if (PW.pt (pw_or (pt_cmpR op_ne (pe_ix ix_list (pv 0) pe_int (fun _ _ => rfl)) (pe_glob (v := .str sArrow) rfl eA ⟨_, rfl⟩) (nomark _))
        (pw_or1 (pt_cmpR op_eq (pe_callB call_len_seq (by rfl) T.len PySem.boot_len (pa_cons (pv 0) pa_nil)) pe_int (nomark _))))) (pss_one (ps_ret pe_non)) pss_nil)
      (pss_cons (ps_set (i := 2) sc_targets_of.nd rfl (Or.inl rfl) (pe_cmpR op_eq (pe_ix ix_list (pv 0) (pe_un un_neg pe_int) (fun _ _ => rfl)) (pe_glob (v := .str sEnd) rfl eE ⟨_, rfl⟩) (nomark _)))
      (C8.pss_cut (ps_set (i := 3) sc_targets_of.nd rfl (Or.inl rfl) (pe_ifExp (pt_val (pv 2)) (pe_slice sl_list (pv 0) (po_some pe_int) (po_some (pe_un un_neg pe_int))) (pe_slice sl_list (pv 0) (po_some pe_int) po_none)))
      (pss_cons (ps_if (pt_not (pt_val (pe_callB (cr_all rfl) (by rfl) T.all (by decide +kernel)
          (pa_cons (pe_lc (own := [("word", 5)]) (g := gName 5) (tt := tYes) rfl sc_targets_of.nd (pi_list (pv 3)) (blkOk_by (N := n_targets_of) (sc := defScope s_targets_of) (by decide +kernel))
            (fun _ _ _ _ _ => pg_name (i := 5) sc_targets_of.nd rfl (Or.inl rfl)) (fun _ _ _ _ _ => pts_nil)
            (fun _ _ _ _ _ => pe_cmp (pc_din hu (pv 5) (pv 1)))) pa_nil)))) (pss_one (ps_ret pe_non)) pss_nil)
      (pss_cons (ps_setLc (i := 4) (own := [("word", 5)]) (g := gName 5) (tt := tYes) rfl sc_targets_of.nd rfl rfl (sw_true rfl rfl rfl (by decide +kernel)) (pi_list (pv 3)) (blkOk_by (N := n_targets_of) (sc := defScope s_targets_of) (by decide +kernel))
            (fun _ _ _ _ _ => pg_name (i := 5) sc_targets_of.nd rfl (Or.inl rfl)) (fun _ _ _ _ _ => pts_nil)
            (fun _ _ _ _ _ => pe_dget hu (pv 1) (pv 5) (fun _ _ => rfl)))
      (pss_cons (ps_if (pt_cmpR (op_neD hr.units) (pv 4) (pe_callB (cr_sortedSet rfl) (by rfl) T.sorted (by decide +kernel) (pa_cons (pe_callTy (cr_setI rfl) (by rfl) T.set (by decide +kernel) (pa_cons (pv 4) pa_nil)) pa_nil)) (nomark _))
          (pss_one (ps_ret pe_non)) pss_nil)
      (pss_one (ps_ret (pe_ifExp (pt_val (pv 2)) (pe_tup (StX.pa_star (pv 4) (pa_cons pe_non pa_nil))) (pe_callTy call_tuple_of (by rfl) T.tuple (by decide +kernel) (pa_cons (pv 4) pa_nil))))))))))), ?_⟩
    refine ⟨_, rfl, a, _, rfl, .inl hS, rfl, _, rfl, ?_⟩
    cases ws with
    | nil =>
      refine iteT ⟨by show 1 ≤ sizeLine; decide, fun t ht => ?_⟩
      exact kS [none] rfl t _ (same_new ht) ht upd_same
    | cons w0 rest =>
      have none_of : targetsT many (w0 :: rest) = none → ∀ H', Same H H' → Q .non H' := kN
      refine iteF ⟨_, rfl, a, _, (0 : Int), .str w0, rfl, rfl, hS, at_of (j := 0) rfl rfl, rfl, _, rfl, ?_⟩
      by_cases h0 : w0 = sArrow
      case neg =>
        rw [decide_eq_false (p := V.str w0 = V.str sArrow) (fun e => h0 (V.str.inj e))]
        exact iteT (iteT (none_of (targetsT_bad h0) H (Same.refl H)))
      subst h0
      rw [decide_eq_true (p := V.str sArrow = V.str sArrow) rfl]
      refine iteF ⟨_, rfl, a, _, rfl, .inl hS, rfl, _, rfl, ?_⟩
      by_cases hr0 : rest = []
      · subst hr0
        exact iteT (none_of targetsT_bare H (Same.refl H))
      rw [decide_eq_false (p := V.int (((sArrow :: rest).map V.str).length : Int) = V.int 1) (fun e => hr0 (by
        have := V.int.inj e
        rw [List.length_map, List.length_cons] at this
        exact List.length_eq_zero_iff.mp (by omega)))]
      refine iteF ?_
      obtain ⟨rs, z, rfl⟩ : ∃ rs z, rest = rs ++ [z] := ⟨rest.dropLast, rest.getLast hr0, (List.dropLast_concat_getLast hr0).symm⟩
      have hlast : atI ((sArrow :: (rs ++ [z])).map V.str) (-1) = some (.str z) := by
        have e := atI_last (V.str sArrow :: rs.map V.str) (.str z)
        simpa using e
      refine ⟨_, rfl, 1, rfl, a, _, (-1 : Int), .str z, rfl, rfl, hS, hlast, rfl, ?_⟩
      refine ⟨fun σ H' => ∃ p named, σ = [some (.ref a), some (.ref d), some (.bl (decide (z = sEnd))), some (.ref p), none, none] ∧ Same H H' ∧ H' p = some (.lst (named.map V.str)) ∧
        named = (if decide (z = sEnd) = true then rs else rs ++ [z]), ?_, ?_⟩
      · have e0 : decide (V.str z = V.str sEnd) = decide (z = sEnd) := decide_eq_decide.mpr ⟨V.str.inj, fun e => by rw [e]⟩
        refine ⟨_, rfl, _, rfl, ?_⟩
        by_cases he : z = sEnd
        · rw [decide_eq_true (p := V.str z = V.str sEnd) (by rw [he])]
          refine iteT ⟨_, rfl, 1, rfl, 1, rfl, _, rfl, a, _, rfl, hS, fun p hp => ?_⟩
          refine ⟨p, rs, ?_, same_new hp, ?_, by rw [decide_eq_true he]; rfl⟩
          · rw [decide_eq_true he]
            rfl
          · rw [upd_same, List.map_cons, cut_mid (by simp), List.map_append, List.map_singleton, List.dropLast_concat]
        · rw [decide_eq_false (p := V.str z = V.str sEnd) (fun e => he (V.str.inj e))]
          refine iteF ⟨_, rfl, 1, rfl, a, _, rfl, hS, fun p hp => ?_⟩
          refine ⟨p, rs ++ [z], ?_, same_new hp, ?_, by rw [decide_eq_false he]; rfl⟩
          · rw [decide_eq_false he]
            rfl
          · rw [upd_same, List.map_cons, cut_one]
      rintro σ H' ⟨p, named, rfl, s1, hp, en⟩
      have hnl : named.length ≤ 4000 := by
        have q : (sArrow :: (rs ++ [z])).length ≤ 4000 := hl
        rw [List.length_cons, List.length_append, List.length_singleton] at q
        rw [en]
        split
        · omega
        · rw [List.length_append, List.length_singleton]; omega
      have et : targetsT many (sArrow :: (rs ++ [z])) = tgOf many named (decide (z = sEnd)) := by rw [targetsT_step, ← en]
      have hD' := s1 _ _ hD
      refine ⟨_, rfl, p, rfl, ⟨_, SqL.of hp⟩, fun D1 hD1 => lc_mp named (walk_list (K := K) (a := p) (xs := named.map V.str) |> fun q => by rw [List.length_map] at q; exact q) hD1
        (fun z => .bl (numOf many z).isSome) (by omega) (fun H2 s2 => SqL.of (s2 _ _ hp)) ?_ ?_⟩
      · rintro i z1 x H2 H3 hz s2 ⟨rfl, hx⟩ R hR
        rw [List.getElem?_map, hz] at hx
        obtain rfl : V.str z1 = x := Option.some.inj hx
        refine ⟨rfl, _, rfl, _, rfl, d, _, rfl, DGet.k (k := Sum.inr z1) (s2 _ _ hD'), ?_⟩
        rw [valV_nums, Option.isSome_map]
        exact hR _ (Same.refl _)
      intro H2 s2 hL
      refine ⟨D1, named.map fun z => (numOf many z).isSome, rfl, by rw [List.map_map]; exact SqL.of hL, _, rfl, ?_⟩
      rw [List.all_map]
      cases ha : named.all (id ∘ fun z => (numOf many z).isSome) with
      | false =>
        refine iteT (none_of ?_ H2 (s1.trans s2))
        rw [et]
        unfold tgOf
        rw [show (named.all fun z => (numOf many z).isSome) = false from ha, if_neg Bool.false_ne_true]
      | true =>
      refine iteF ?_
      have ha' : ∀ z ∈ named, (numOf many z).isSome = true := fun z hz => List.all_eq_true.mp ha z hz
      have s12 := s1.trans s2
      have hp2 := s2 _ _ hp
      have hD2 := s2 _ _ hD'
      refine ⟨_, rfl, p, rfl, ⟨_, SqL.of hp2⟩, fun D2 hD2' => lc_mp named (walk_list (K := K) (a := p) (xs := named.map V.str) |> fun q => by rw [List.length_map] at q; exact q) hD2'
        (fun z => .int (((numOf many z).getD 0 : Nat) : Int)) (by omega) (fun H3 s3 => SqL.of (s3 _ _ hp2)) ?_ ?_⟩
      · rintro i z1 x H3 H4 hz s3 ⟨rfl, hx⟩ R hR
        rw [List.getElem?_map, hz] at hx
        obtain rfl : V.str z1 = x := Option.some.inj hx
        refine ⟨rfl, _, rfl, _, rfl, d, .int (((numOf many z1).getD 0 : Nat) : Int), rfl, ?_, hR _ (Same.refl _)⟩
        have g := DGet.k (k := Sum.inr z1) (s3 _ _ hD2)
        rw [valV_nums] at g
        have h1 := ha' z1 (List.mem_of_getElem? hz)
        cases e : numOf many z1 with
        | none => rw [e] at h1; cases h1
        | some k =>
          rw [e] at g
          exact g
      intro H3 s3 hT
      have ets : named.map (fun z => V.int (((numOf many z).getD 0 : Nat) : Int)) = ((named.filterMap (numOf many)).map Int.ofNat).map V.int := by
        clear hT s3 en et hnl hp hp2 hL
        induction named with
        | nil => rfl
        | cons z r ih =>
          have h1 := ha' z List.mem_cons_self
          have h2 := ih (by rw [List.all_eq_true]; exact fun y hy => ha' y (List.mem_cons_of_mem _ hy)) fun y hy => ha' y (List.mem_cons_of_mem _ hy)
          cases e : numOf many z with
          | none => rw [e] at h1; cases h1
          | some k =>
            rw [List.map_cons, h2, List.filterMap_cons, e]
            rfl
      rw [ets] at hT
      have hlt : ∀ k ∈ named.filterMap (numOf many), k < many := fun k hk => by
        obtain ⟨z, _, e⟩ := List.mem_filterMap.mp hk
        exact (numOf_some.mp e).1
      generalize htl : named.filterMap (numOf many) = ts at hT hlt
      have htl4 : ts.length ≤ 4000 := by
        rw [← htl]
        exact Nat.le_trans (List.length_filterMap_le _ _) hnl
      have etg : tgOf many named (decide (z = sEnd)) = if rises ts then some (ts.map some ++ if decide (z = sEnd) then [none] else []) else none := by
        unfold tgOf
        rw [show (named.all fun z => (numOf many z).isSome) = true from ha, if_pos rfl, htl]
      have hc60 : ∀ c : Nat, (∀ l : List Int, (∀ k ∈ ts.map Int.ofNat, k ∈ l) → c ≤ l.length) → c < 64 := fun c hc => by
        have q := hc ((List.range many).map Int.ofNat) fun k hk => by
          obtain ⟨j, hj, rfl⟩ := List.mem_map.mp hk
          exact List.mem_map.mpr ⟨j, List.mem_range.mpr (hlt j hj), rfl⟩
        rw [List.length_map, List.length_range] at q
        omega
      refine ⟨_, rfl, _, rfl, D2, ts.map Int.ofNat, rfl, SqL.of hT, by rw [List.length_map]; unfold scanBound; omega, fun pS c hpS hc => ?_⟩
      refine ⟨pS, _, c, rfl, upd_same, hc60 c hc, fun ns pn hs hmem hlen hpn => ?_⟩
      have nTS : D2 ≠ pS := ne_of_none hT hpS
      have nTn : D2 ≠ pn := fun e => by
        rw [← e, upd_ne nTS, hT] at hpn
        cases hpn
      have hT2 : (upd (upd H3 pS (SetO w pS (fun j => decide (j ∈ ts.map Int.ofNat)) c)) pn (.lst (ns.map V.int))) D2 = some (.lst ((ts.map Int.ofNat).map V.int)) := by
        rw [upd_ne nTn, upd_ne nTS]
        exact hT
      refine ⟨.list ((ts.map Int.ofNat).map PyData.int), .list (ns.map PyData.int), .lst (SqL.of hT2) (dp_ints _), .lst (SqL.of upd_same) (dp_ints _), shaped_ints _, shaped_ints _, _, rfl, ?_⟩
      rw [eqv_ints]
      have hrs := rises_set hs fun k => by rw [hmem k]; exact decide_eq_true_iff
      have sall : Same H (upd (upd H3 pS (SetO w pS (fun j => decide (j ∈ ts.map Int.ofNat)) c)) pn (.lst (ns.map V.int))) :=
        (s12.trans s3).trans ((same_new hpS).trans (same_new hpn))
      by_cases hri : rises ts = true
      case neg =>
        rw [decide_eq_false (fun e => hri (hrs.mp e))]
        refine iteT (none_of ?_ _ sall)
        rw [et, etg, if_neg hri]
      rw [decide_eq_true (hrs.mpr hri)]
      refine iteF ?_
      have etT : targetsT many (sArrow :: (rs ++ [z])) = some (ts.map some ++ if decide (z = sEnd) then [none] else []) := by rw [et, etg, if_pos hri]
      have ev : ∀ l : List Nat, (l.map Int.ofNat).map V.int = (l.map some).map tgV := fun l => by
        rw [List.map_map, List.map_map]
        rfl
      refine ⟨_, rfl, _, rfl, ?_⟩
      cases he : decide (z = sEnd) with
      | true =>
        rw [he] at etT
        refine iteT ⟨_, rfl, D2, _, rfl, .inr (SqL.of hT2), ?_, fun t ht => ?_⟩
        · rw [List.length_append, List.length_map, List.length_map, sizeLine_eq]
          show ts.length + 1 ≤ _
          omega
        · refine kS _ etT t _ (sall.trans (same_new ht)) ?_ ?_
          · exact sall.free ht
          · rw [upd_same, ev, List.map_append]
            rfl
      | false =>
        rw [he] at etT
        refine iteF ⟨_, rfl, D2, _, rfl, .inl ⟨SqL.of hT2, fun t ht => ?_⟩⟩
        refine kS _ etT t _ (sall.trans (same_new ht)) (sall.free ht) ?_
        rw [upd_same, ev, List.map_append]
        show _ = some (HO.tup (_ ++ []))
        rw [List.append_nil]
end
end Vf

set_option maxRecDepth 100000
set_option maxHeartbeats 8000000
namespace Vf
open PySem PySem.Spec PyProof.Rows L2
def NodeAt (H : Hp) (a : Addr) (n : Nd) : Prop := ∃ t, H a = some (.tup [.str n.word, .str n.cell, .ref t]) ∧ H t = some (.tup (n.tg.map tgV))
theorem NodeAt.same {H H' : Hp} {a : Addr} {n : Nd} (h : NodeAt H a n) (s : Same H H') : NodeAt H' a n := by
  obtain ⟨t, h1, h2⟩ := h
  exact ⟨t, s _ _ h1, s _ _ h2⟩
theorem cut_two {x y : V} {xs : List V} : cutV (x :: y :: xs) (some 2) none = xs := by
  unfold cutV
  have e : HT.sIx (x :: y :: xs).length 0 (some 2) = 2 := by
    show (if (2 : Int) < 0 then ((2 : Int) + ((xs.length + 2 : Nat) : Int)).toNat else min (2 : Int).toNat (xs.length + 2)) = 2
    rw [if_neg (by decide)]
    show min 2 (xs.length + 2) = 2
    omega
  rw [e, HT.sIx_none]
  simp
/-- no part is longer than the whole -/
theorem part_len {x y z : Str} (h : z ∈ Txt.split x y) : z.length ≤ x.length := by
  have e := StrLaws.join_split x y
  generalize Txt.split x y = l at h e
  rw [← e]
  clear e
  induction l with
  | nil => cases h
  | cons a r ih =>
    cases r with
    | nil =>
      rw [List.mem_singleton.mp h]
      exact Nat.le_refl _
    | cons b r =>
      show z.length ≤ (a ++ y ++ Str.join y (b :: r)).length
      rw [Str.length_append, Str.length_append]
      rcases List.mem_cons.mp h with rfl | h
      · omega
      · have := ih h
        omega
theorem nodeT_short {many : Nat} {row : Str} (h : (Txt.split row sSp).length < 2) : nodeT many row = none := by
  unfold nodeT
  match Txt.split row sSp, h with
  | [], _ => rfl
  | [_], _ => rfl
theorem nodeT_cons {many : Nat} {row w c : Str} {rest : List Str} (h : Txt.split row sSp = w :: c :: rest) :
    nodeT many row = if (w = sRead ∨ w = sWrite) ∧ isNameT c = true then (targetsT many rest).map fun t => ⟨w, c, t⟩ else none := by
  unfold nodeT
  rw [h]
section
variable {P : Program} {w : World} {K : PySem.W.Frag} {mg : Str → Option Value} {base : Heap}
def sp_node_of : Sp := fun vs H Q _ => ∃ (row : Str) (d : Addr) (many : Nat), vs = [.str row, .ref d] ∧ H d = some (.dK (numKvs many)) ∧ many ≤ 60 ∧ row.length ≤ 100000 ∧ (Txt.split row sSp).length ≤ 4000 ∧
  (nodeT many row = none → ∀ H', Same H H' → Q .non H') ∧ ∀ n, nodeT many row = some n → ∀ a H', Same H H' → NodeAt H' a n → Q (.ref a) H'
theorem ok_node_of {f : Addr} {fd : FuncData} (F : Fun K "_node_of" "_node_of" s_node_of f fd) (T : Txt0 K mg) (GN : OkF P w K mg base CX0 "is_name" p_is_name 1 sp_is_name) (GT : OkF P w K mg base CX0 "_targets_of" p_targets_of 1 (sp_targets_of K)) :
    FnOk P w K mg base CX0 2 f fd p_node_of sp_node_of := by
  refine F.ok sc_node_of (fun vs H Q E h => ?_) (fun cdv A outer s H vs Q E hr h => ?_)
  · obtain ⟨row, d, many, rfl, _⟩ := h
    rfl
  · obtain ⟨row, d, many, rfl, hD, hm, hl, hw, kN, kS⟩ := h
    obtain ⟨aW, eW, hW⟩ := T.words
    refine ⟨_, pss_cons (ps_set (i := 2) sc_node_of.nd rfl (Or.inl rfl) (pe_split (pv 0) pe_str))
      (pss_cons (ps_if (PW.pt (pw_or (pt_cmpR op_lt (pe_callB call_len_seq (by rfl) T.len PySem.boot_len (pa_cons (pv 2) pa_nil)) pe_int (nomark _))
          (pw_or (pt_cmpR op_notIn_seq (pe_ix ix_list (pv 2) pe_int (fun _ _ => rfl)) (pe_glob (v := .ref aW) rfl eW rfl) rfl)
          (pw_or1 (pt_not (pt_val (pe_fn GN hr rfl pass0 (pa_cons (pe_ix ix_list (pv 2) pe_int (fun _ _ => rfl)) pa_nil)))))))) (pss_one (ps_ret pe_non)) pss_nil)
      (pss_cons (ps_set (i := 3) sc_node_of.nd rfl (Or.inl rfl) (pe_fn GT hr rfl pass0 (pa_cons (pe_slice sl_list (pv 2) (po_some pe_int) po_none) (pa_cons (pv 1) pa_nil))))
      (pss_cons (ps_if (pt_cmpR op_isN (pv 3) pe_non (nomark _)) (pss_one (ps_ret pe_non)) pss_nil)
      (pss_one (ps_ret (pe_tup (pa_cons (pe_ix ix_list (pv 2) pe_int (fun _ _ => rfl)) (pa_cons (pe_ix ix_list (pv 2) pe_int (fun _ _ => rfl)) (pa_cons (pv 3) pa_nil))))))))), ?_⟩
    refine ⟨_, rfl, ⟨_, rfl⟩, _, sSp, rfl, rfl, (by decide +kernel), (by rw [sizeLine_eq]; omega), fun p hp => ?_⟩
    have s1 := same_new (o := .lst ((Txt.split row sSp).map V.str)) hp
    refine ⟨_, rfl, p, _, rfl, .inl (SqL.of upd_same), _, _, rfl, rfl, _, rfl, ?_⟩
    rw [List.length_map]
    by_cases h2 : (Txt.split row sSp).length < 2
    · rw [decide_eq_true (p := (((Txt.split row sSp).length : Nat) : Int) < 2) (by omega)]
      exact iteT (iteT (kN (nodeT_short h2) _ s1))
    rw [decide_eq_false (p := (((Txt.split row sSp).length : Nat) : Int) < 2) (by omega)]
    obtain ⟨w0, c, rest, hsp⟩ : ∃ w0 c rest, Txt.split row sSp = w0 :: c :: rest := by
      match Txt.split row sSp, h2 with
      | [], h => exact absurd (show 0 < 2 by decide) h
      | [_], h => exact absurd (show 1 < 2 by decide) h
      | a :: b :: r, _ => exact ⟨a, b, r, rfl⟩
    have hpl : (upd H p (.lst ((Txt.split row sSp).map V.str))) p = some (.lst ((w0 :: c :: rest).map V.str)) := by rw [upd_same, hsp]
    have en := nodeT_cons (many := many) hsp
    refine iteF ⟨_, rfl, p, _, (0 : Int), .str w0, rfl, rfl, SqL.of hpl, at_of (j := 0) rfl rfl, aW, _, rfl, .inr (hW _), rfl, rfl, _, rfl, ?_⟩
    have hin : inV (.str w0) [V.str sRead, V.str sWrite] = decide (w0 = sRead ∨ w0 = sWrite) := by
      by_cases e1 : w0 = sRead
      · subst e1
        rw [decide_eq_true (.inl rfl)]
        decide +kernel
      by_cases e2 : w0 = sWrite
      · subst e2
        rw [decide_eq_true (.inr rfl)]
        decide +kernel
      rw [decide_eq_false (by rintro (e | e); exact e1 e; exact e2 e)]
      show ([V.str sRead, V.str sWrite].any fun y => eqV y (.str w0)) = false
      rw [List.any_cons, List.any_cons, List.any_nil]
      have f1 : eqV (.str sRead) (.str w0) = false := decide_eq_false fun e => e1 e.symm
      have f2 : eqV (.str sWrite) (.str w0) = false := decide_eq_false fun e => e2 e.symm
      rw [f1, f2]
      rfl
    show if (if true = true then !inV (.str w0) [V.str sRead, V.str sWrite] else _) = true then _ else _
    rw [if_pos rfl, hin]
    by_cases hw0 : w0 = sRead ∨ w0 = sWrite
    case neg =>
      rw [decide_eq_false hw0]
      refine iteT (iteT (kN ?_ _ s1))
      rw [en, if_neg (fun h => hw0 h.1)]
    rw [decide_eq_true hw0]
    have hc : c.length ≤ 1000000 := by
      have := part_len (x := row) (y := sSp) (z := c) (by rw [hsp]; simp)
      omega
    refine iteF ⟨_, rfl, p, _, (1 : Int), .str c, rfl, rfl, SqL.of hpl, at_of (j := 1) rfl rfl, c, rfl, hc, fun H2 s2 => ?_⟩
    refine ⟨_, rfl, ?_⟩
    cases hnm : isNameT c with
    | false =>
      refine iteT (kN ?_ _ (s1.trans s2))
      rw [en, if_neg (fun h => by rw [hnm] at h; exact Bool.false_ne_true h.2)]
    | true =>
    rw [if_pos ⟨hw0, hnm⟩] at en
    have hp2 := s2 _ _ hpl
    refine iteF ⟨_, rfl, 2, rfl, p, _, rfl, SqL.of hp2, fun q hq => ?_⟩
    have s3 := same_new (o := .lst (cutV ((w0 :: c :: rest).map V.str) (some 2) none)) hq
    have s13 := (s1.trans s2).trans s3
    have hq3 : (upd H2 q (.lst (cutV ((w0 :: c :: rest).map V.str) (some 2) none))) q = some (.lst (rest.map V.str)) := by
      rw [upd_same, List.map_cons, List.map_cons, cut_two]
    have hlr : rest.length ≤ 4000 := by
      rw [hsp, List.length_cons, List.length_cons] at hw
      omega
    refine ⟨_, rfl, q, d, rest, many, rfl, SqL.of hq3, s13 _ _ hD, hlr, hm, fun eT H4 s4 => ?_, fun tg eT t H4 s4 ht0 ht => ?_⟩
    · refine ⟨_, rfl, rfl, _, rfl, iteT (kN ?_ _ (s13.trans s4))⟩
      rw [en, eT]
      rfl
    · have hp4 := (s3.trans s4) _ _ hp2
      refine ⟨_, rfl, rfl, _, rfl, iteF ⟨_, rfl, p, _, (0 : Int), .str w0, rfl, rfl, SqL.of hp4, at_of (j := 0) rfl rfl,
        _, rfl, p, _, (1 : Int), .str c, rfl, rfl, SqL.of hp4, at_of (j := 1) rfl rfl, _, rfl, (by show 3 ≤ sizeLine; decide), fun a ha => ?_⟩⟩
      refine kS ⟨w0, c, tg⟩ (by rw [en, eT]; rfl) a _ ((s13.trans s4).trans (same_new ha)) ⟨t, upd_same, ?_⟩
      rw [upd_ne (ne_of_none ht ha)]
      exact ht
end
end Vf

set_option maxRecDepth 100000
set_option maxHeartbeats 8000000
namespace Vf
open PySem PySem.Spec PyProof.Rows L2
/-- what stood at H1 stands at H, but for what is at p -/
theorem NodeAt.but {p : Addr} {H H' : Hp} {a : Addr} {n : Nd} (h : NodeAt H a n) (s : But p H H') (hp : ∃ xs, H p = some (.lst xs)) : NodeAt H' a n := by
  obtain ⟨t, h1, h2⟩ := h
  obtain ⟨xs, hp⟩ := hp
  exact ⟨t, s _ _ (ne_of h1 hp (by intro z; cases z)) h1, s _ _ (ne_of h2 hp (by intro z; cases z)) h2⟩
/-- a tuple of nodes -/
def NodesIn (H : Hp) (as : List Addr) (ns : List Nd) : Prop := as.length = ns.length ∧ ∀ (i : Nat) (a : Addr) (n : Nd), as[i]? = some a → ns[i]? = some n → NodeAt H a n
def NodesAt (H : Hp) (t : Addr) (ns : List Nd) : Prop := ∃ as : List Addr, H t = some (.tup (as.map V.ref)) ∧ NodesIn H as ns
theorem NodesIn.same {H H' : Hp} {as : List Addr} {ns : List Nd} (h : NodesIn H as ns) (s : Same H H') : NodesIn H' as ns :=
  ⟨h.1, fun i a n ha hn => (h.2 i a n ha hn).same s⟩
theorem NodesAt.same {H H' : Hp} {t : Addr} {ns : List Nd} (h : NodesAt H t ns) (s : Same H H') : NodesAt H' t ns := by
  obtain ⟨as, h1, h2⟩ := h
  exact ⟨as, s _ _ h1, h2.same s⟩
theorem nodesT_get {many : Nat} : ∀ {rs : List Str} {ns : List Nd}, nodesT many rs = some ns → rs.length = ns.length ∧ ∀ (i : Nat) (r : Str), rs[i]? = some r → ∃ n, ns[i]? = some n ∧ nodeT many r = some n
  | [], ns, h => by
    obtain rfl : [] = ns := Option.some.inj h
    exact ⟨rfl, fun i r h => by simp at h⟩
  | r :: rs, ns, h => by
    unfold nodesT at h
    cases e : nodeT many r with
    | none => rw [e] at h; cases h
    | some n =>
      rw [e] at h
      cases e2 : nodesT many rs with
      | none => rw [e2] at h; cases h
      | some ms =>
        rw [e2] at h
        obtain rfl : n :: ms = ns := Option.some.inj h
        obtain ⟨h1, h2⟩ := nodesT_get e2
        refine ⟨by rw [List.length_cons, List.length_cons, h1], fun i z hz => ?_⟩
        cases i with
        | zero =>
          obtain rfl : r = z := by simpa using hz
          exact ⟨n, rfl, e⟩
        | succ i =>
          obtain ⟨m, hm, hn⟩ := h2 i z (by simpa using hz)
          exact ⟨m, by simpa using hm, hn⟩
theorem cut_eight {xs : List V} : cutV xs none (some 8) = xs.take 8 := by
  unfold cutV
  have e : HT.sIx xs.length xs.length (some 8) = min 8 xs.length := by
    show (if (8 : Int) < 0 then ((8 : Int) + ((xs.length : Nat) : Int)).toNat else min (8 : Int).toNat xs.length) = _
    rw [if_neg (by decide)]
    rfl
  rw [e, HT.sIx_none, List.drop_zero, Nat.sub_zero]
  by_cases h : 8 ≤ xs.length
  · rw [Nat.min_eq_left h]
  · rw [Nat.min_eq_right (by omega), List.take_of_length_le (by omega), List.take_of_length_le (by omega)]
theorem put_new {kvs : List (Key × V)} {k : Key} {v : V} (h : k ∉ kvs.map (·.1)) : putK kvs k v = kvs ++ [(k, v)] := by
  refine putK_new _ ?_
  cases e : valV kvs k with
  | none => rfl
  | some x => exact absurd (valV_in e) h
section
variable {P : Program} {w : World} {K : PySem.W.Frag} {mg : Str → Option Value} {base : Heap}
def Fits (z : Str) : Prop := z.length ≤ 100000 ∧ ∀ r ∈ Txt.split z sNl, (Txt.split r sSp).length ≤ 4000
def sp_nodes_of : Sp := fun vs H Q _ => ∃ (z : Str) (ns : List Nd), vs = [.str z] ∧ Fits z ∧ parseT z = some ns ∧ ∀ t H', Same H H' → NodesAt H' t ns → Q (.ref t) H'
theorem ok_nodes_of {f : Addr} {fd : FuncData} (F : Fun K "_nodes_of" "_nodes_of" s_nodes_of f fd) (T : Txt0 K mg) (GN : OkF P w K mg base CX0 "_node_of" p_node_of 2 sp_node_of) :
    FnOk P w K mg base CX0 3 f fd p_nodes_of sp_nodes_of := by
  refine F.ok sc_nodes_of (fun vs H Q E h => ?_) (fun cdv A outer s H vs Q E hr h => ?_)
  · obtain ⟨z, ns, rfl, _⟩ := h
    rfl
  · obtain ⟨z, ns, rfl, ⟨hz, hw⟩, hp, k⟩ := h
    obtain ⟨t8, e8⟩ := T.most
    refine ⟨_, pss_cons (ps_if (pt_not (pt_val (pe_callB call_isi (by rfl) T.isinstance boot_isinstance (pa_cons (pv 0) (pa_cons (pe_bltn (by rfl) T.str boot_str (v := .ty "str") rfl) pa_nil))))) (pss_one ps_never) pss_nil)
      (pss_cons (ps_set (i := 1) sc_nodes_of.nd rfl (Or.inl rfl) (pe_split (pv 0) pe_str))
      (pss_cons (ps_setDc (i := 2) (own := [("number", 7)]) (g := gName 7) (tt := tYes) rfl sc_nodes_of.nd rfl rfl (sw_dict rfl rfl rfl (by decide +kernel))
          (pi_range1 (by rfl) T.range (pa_cons (pe_callB call_len_seq (by rfl) T.len PySem.boot_len (pa_cons (pv 1) pa_nil)) pa_nil)) (blkOk_by (N := n_nodes_of) (sc := defScope s_nodes_of) (by decide +kernel))
          (fun _ _ _ _ _ => pg_name (i := 7) sc_nodes_of.nd rfl (Or.inl rfl)) (fun _ _ _ _ _ => pts_nil)
          (fun _ _ _ _ _ => pe_callTy call_str_int (by rfl) T.str boot_str (pa_cons (pv 7) pa_nil)) (fun _ _ _ _ _ => pv 7))
      (pss_cons (ps_set (i := 3) sc_nodes_of.nd rfl (Or.inl rfl) (pe_lst pa_nil))
      (pss_cons (ps_for PassesOwn.never rfl (pi_enum (by rfl) T.enumerate (pa_cons (pe_slice sl_list (pv 1) po_none (po_some (pe_glob (v := .int 8) rfl e8 ⟨_, rfl⟩))) pa_nil))
          (pg_tup (by rfl) (pgs_cons (pg_name (i := 4) sc_nodes_of.nd rfl (Or.inl rfl)) (pgs_cons (pg_name (i := 5) sc_nodes_of.nd rfl (Or.inl rfl)) pgs_nil)))
        (pss_cons (ps_set (i := 6) sc_nodes_of.nd rfl (Or.inl rfl) (pe_fn GN (hr.mono (by decide)) rfl pass0 (pa_cons (pv 5) (pa_cons (pv 2) pa_nil))))
        (pss_cons (ps_if (pt_cmpR op_isN (pv 6) pe_non (nomark _)) (pss_one ps_never) pss_nil)
        (pss_one (ps_expr (pe_bm PySem.F.plainAttrs_list PySem.F.slot_list_append PySem.F.type_list_append mt_append (pv 3) (pa_cons (pv 6) pa_nil)))))))
      (pss_cons (ps_if (pt_cmpR op_gt (pe_callB call_len_seq (by rfl) T.len PySem.boot_len (pa_cons (pv 1) pa_nil)) (pe_glob (v := .int 8) rfl e8 ⟨_, rfl⟩) (nomark _)) (pss_one ps_never) pss_nil)
      (pss_one (ps_ret (pe_callTy call_tuple_of (by rfl) T.tuple (by decide +kernel) (pa_cons (pv 3) pa_nil))))))))), ?_⟩
    refine ⟨_, rfl, _, _, _, _, true, rfl, .ty _, .base (.str _), kit_ty (by decide +kernel), _, rfl, iteF ?_⟩
    refine ⟨_, rfl, ⟨_, rfl⟩, _, sNl, rfl, rfl, (by decide +kernel), (by rw [sizeLine_eq]; omega), fun p hpn => ?_⟩
    have s1 := same_new (o := .lst ((Txt.split z sNl).map V.str)) hpn
    unfold parseT at hp
    dsimp only at hp
    generalize hrows : Txt.split z sNl = rows at hp hw s1 ⊢
    have hr8 : rows.length ≤ 8 := by
      by_cases h8 : rows.length ≤ 8
      · exact h8
      · rw [if_neg h8] at hp
        cases hp
    rw [if_pos hr8] at hp
    obtain ⟨hlen, hget⟩ := nodesT_get hp
    have hrow : ∀ r ∈ rows, r.length ≤ 100000 := fun r hr' => by
      have := part_len (x := z) (y := sNl) (z := r) (by rw [hrows]; exact hr')
      omega
    refine ⟨_, rfl, p, _, rfl, .inl (SqL.of upd_same), _, rfl, (by rw [List.length_map]; omega), (by rw [List.length_map]; omega), fun d hd => ?_⟩
    rw [List.length_map, Int.toNat_natCast]
    refine dc_it walk_range (fun i H' => Same (upd H p (.lst (rows.map V.str))) H' ∧ H' d = some (.dK (numKvs i))) ⟨same_new hd, upd_same⟩ (fun _ _ _ _ => trivial) ?_ ?_
    · rintro i x H2 H3 hi ⟨s2, h2⟩ ⟨rfl, rfl⟩
      refine ⟨rfl, _, rfl, (0 + (i : Int)), rfl, ?_, _, rfl, numKvs i, Sum.inr (natS i), ?_, h2, ?_, ?_, ?_⟩
      · rw [Int.zero_add]
        show i.log2 < 1920
        exact Nat.lt_of_le_of_lt (Nat.log2_le_self i) (by omega)
      · rw [Int.zero_add]
        rfl
      · unfold numKvs
        rw [List.length_map, List.length_range, sizeLine_eq]
        omega
      · exact same_upd s2 hd
      · rw [upd_same, put_new]
        · show some (HO.dK (numKvs i ++ [(Sum.inr (natS i), V.int (0 + (i : Int)))])) = _
          unfold numKvs
          rw [List.range_succ, List.map_append, Int.zero_add]
          rfl
        · unfold numKvs
          rw [List.map_map]
          intro hm
          obtain ⟨j, hj, e⟩ := List.mem_map.mp hm
          have e' : natS j = natS i := Sum.inr.inj e
          have := natS_inj e'
          have := List.mem_range.mp hj
          omega
    rintro H2 ⟨s2, hd2⟩
    have s02 := s1.trans s2
    have hp2 := s2 _ _ (upd_same (H := H) (a := p) (o := .lst (rows.map V.str)))
    refine ⟨Nat.zero_le _, fun l hl => ?_⟩
    have hlD : d ≠ l := ne_of_none hd2 hl
    have hlP : p ≠ l := ne_of_none hp2 hl
    have hp3 : (upd H2 l (.lst [])) p = some (.lst (rows.map V.str)) := by rw [upd_ne hlP]; exact hp2
    refine ⟨_, rfl, 8, rfl, p, _, rfl, SqL.of hp3, fun q hq => ?_⟩
    rw [cut_eight, List.take_of_length_le (by rw [List.length_map]; exact hr8)]
    have hlq : l ≠ q := fun e => by
      rw [← e, upd_same] at hq
      cases hq
    have hpq : p ≠ q := ne_of_none hp3 hq
    have hdq : d ≠ q := ne_of_none (by rw [upd_ne hlD]; exact hd2) hq
    generalize hHL : upd (upd H2 l (.lst [])) q (.lst (rows.map V.str)) = HL
    have eq_q : HL q = some (.lst (rows.map V.str)) := by rw [← hHL, upd_same]
    have eq_l : HL l = some (.lst []) := by rw [← hHL, upd_ne hlq, upd_same]
    have eq_p : HL p = some (.lst (rows.map V.str)) := by rw [← hHL, upd_ne hpq]; exact hp3
    have eq_d : HL d = some (.dK (numKvs rows.length)) := by rw [← hHL, upd_ne hdq, upd_ne hlD]; exact hd2
    have sHL : Same H HL := by
      rw [← hHL]
      exact (s02.trans (same_new hl)).trans (same_new hq)
    have hl0 : H l = none := s02.free hl
    refine ⟨q, _, rfl, SqL.of eq_q, for_it (walk_enum (K := K) (a := q) (xs := rows.map V.str)) (fun i σ H' => ∃ (as : List Addr) (v4 v5 v6 v7 : Option V), σ = [some (.str z), some (.ref p), some (.ref d), some (.ref l), v4, v5, v6, v7] ∧
        But l HL H' ∧ H' l = some (.lst (as.map V.ref)) ∧ as.length = i ∧ ∀ (j : Nat) (a : Addr) (n : Nd), as[j]? = some a → ns[j]? = some n → NodeAt H' a n)
      ⟨[], none, none, none, none, rfl, But.refl _ _, eq_l, rfl, fun j a n h => by simp at h⟩ (fun i σ H' _ ⟨_, _, _, _, _, _, hb, _⟩ => SqL.of (hb _ _ hlq.symm eq_q)) ?_ ?_⟩
    · rintro i x σ H3 H4 hi ⟨as, v4, v5, v6, v7, rfl, hb, hla, hai, hna⟩ ⟨T1, x1, x2, rfl, hT1, rfl, hx1, hx2⟩
      rw [List.length_map] at hi
      obtain rfl : V.int (i : Nat) = x1 := Option.some.inj hx1
      have hri : rows[i]? = some rows[i] := List.getElem?_eq_getElem hi
      replace hx2 : (rows.map V.str)[i]? = some x2 := hx2
      rw [List.getElem?_map, hri] at hx2
      obtain rfl : V.str rows[i] = x2 := Option.some.inj hx2
      obtain ⟨n, hn1, hn2⟩ := hget i _ hri
      have hd4 : (upd H3 T1 (.tup [.int (i : Nat), .str rows[i]])) d = some (.dK (numKvs rows.length)) := same_new hT1 _ _ (hb _ _ hlD eq_d)
      refine ⟨T1, _, rfl, SqT.of upd_same, rfl, _, _, rfl, _, _, rfl, rfl, _, rfl, _, rfl, rows[i], d, rows.length, rfl, hd4, by omega, hrow _ (List.getElem_mem hi), hw _ (List.getElem_mem hi), fun e => ?_, fun n' en a H5 s5 hna5 => ?_⟩
      · rw [hn2] at e
        cases e
      · obtain rfl : n = n' := Option.some.inj (hn2.symm.trans en)
        have s35 := (same_new hT1).trans s5
        have hla5 := s35 _ _ hla
        refine ⟨_, rfl, rfl, _, rfl, iteF ⟨_, rfl, .inl ⟨rfl, _, SqL.of hla5⟩, _, rfl, l, _, _, rfl, rfl, hla5, ?_, ?_⟩⟩
        · rw [List.length_map, sizeLine_eq]
          omega
        · refine ⟨as ++ [a], _, _, _, _, rfl, (hb.then s35).put, by rw [upd_same, List.map_append]; rfl, by rw [List.length_append, hai]; rfl, fun j b m hj hm => ?_⟩
          have hbut : But l H5 (upd H5 l (.lst (as.map V.ref ++ [.ref a]))) := (But.refl l H5).put
          by_cases hj' : j < as.length
          · rw [List.getElem?_append_left hj'] at hj
            exact ((hna j b m hj hm).same s35).but hbut ⟨_, hla5⟩
          · have ej : j = as.length := by
              have := (List.getElem?_eq_some_iff.mp hj).1
              rw [List.length_append, List.length_singleton] at this
              omega
            subst ej
            rw [List.getElem?_append_right (Nat.le_refl _), Nat.sub_self] at hj
            obtain rfl : a = b := by simpa using hj
            rw [hai] at hm
            obtain rfl : n = m := Option.some.inj (hn1.symm.trans hm)
            exact hna5.but hbut ⟨_, hla5⟩
    · rintro σ H3 ⟨as, v4, v5, v6, v7, rfl, hb, hla, hai, hna⟩
      rw [List.length_map] at hai
      have hp5 := hb _ _ hlP eq_p
      refine ⟨_, rfl, p, _, rfl, .inl (SqL.of hp5), _, _, rfl, rfl, _, rfl, ?_⟩
      rw [List.length_map, decide_eq_false (p := (8 : Int) < ((rows.length : Nat) : Int)) (by omega)]
      refine iteF ⟨_, rfl, l, _, rfl, .inl ⟨SqL.of hla, fun t ht => ?_⟩⟩
      refine k t _ ((hb.same sHL hl0).trans (same_new ht)) ⟨as, upd_same, ?_⟩
      exact NodesIn.same ⟨by rw [hai, hlen], hna⟩ (same_new ht)
end
end Vf

set_option maxRecDepth 100000
set_option maxHeartbeats 8000000
namespace Vf
open PySem PySem.Spec PyProof.Rows L2
theorem pn_ne : ¬ (("nodes" : Str) = "_text") := by decide +kernel
def pflds (t : Addr) (z : Str) : List (Str × V) := [("nodes", V.ref t), ("_text", V.str z)]
theorem pflds_nodes (t : Addr) (z : Str) : (pflds t z).lookup ("nodes" : Str) = some (.ref t) := by
  unfold pflds
  rw [List.lookup_cons_self]
theorem pflds_text (t : Addr) (z : Str) : (pflds t z).lookup ("_text" : Str) = some (.str z) := by
  unfold pflds
  have e : (("_text" : Str) == ("nodes" : Str)) = false := by decide +kernel
  rw [List.lookup_cons, e]
  simp only [List.lookup_cons_self]
theorem pflds_put (t : Addr) (z : Str) : putF "_text" (.str z) (putF "nodes" (.ref t) []) = pflds t z := by
  show (if ("nodes" : Str) = "_text" then [(("nodes" : Str), V.str z)] else (("nodes" : Str), V.ref t) :: putF "_text" (.str z) []) = _
  rw [if_neg pn_ne]
  rfl
def ProgAt (C : Addr) (H : Hp) (p : Addr) (z : Str) (ns : List Nd) : Prop := ∃ dx t, H p = some (.ins C dx (pflds t z)) ∧ NodesAt H t ns
theorem ProgAt.same {C : Addr} {H H' : Hp} {p : Addr} {z : Str} {ns : List Nd} (h : ProgAt C H p z ns) (s : Same H H') : ProgAt C H' p z ns := by
  obtain ⟨dx, t, h1, h2⟩ := h
  exact ⟨dx, t, s _ _ h1, h2.same s⟩
structure TxtP (K : PySem.W.Frag) (mg : Str → Option Value) (C : Addr) : Prop where
  cl : Cls K C
  nN : NoAttr K C "nodes"
  nT : NoAttr K C "_text"
  mgC : mg "Program" = some (.ref C)
section
variable {P : Program} {w : World} {K : PySem.W.Frag} {mg : Str → Option Value} {base : Heap}
def sp_Program_init (C : Addr) : Sp := fun vs H Q _ => ∃ (p dx : Addr) (z : Str) (ns : List Nd), vs = [.ref p, .str z] ∧ H p = some (.ins C dx []) ∧ Fits z ∧ parseT z = some ns ∧
  ∀ t H', But p H H' → H' p = some (.ins C dx (pflds t z)) → NodesAt H' t ns → Q .non H'
theorem ok_Program_init {f C : Addr} {fd : FuncData} (F : Fun K "__init__" "Program.__init__" s_Program_init f fd) (T : TxtP K mg C) (GN : OkF P w K mg base CX0 "_nodes_of" p_nodes_of 3 sp_nodes_of) :
    FnOk P w K mg base CX0 4 f fd p_Program_init (sp_Program_init C) := by
  refine F.ok sc_Program_init (fun vs H Q E h => ?_) (fun cdv A outer s H vs Q E hr h => ?_)
  · obtain ⟨p, dx, z, ns, rfl, _⟩ := h
    rfl
  · obtain ⟨p, dx, z, ns, rfl, hp, hf, hps, k⟩ := h
    refine ⟨_, pss_cons (ps_fld (pv 0) (pe_fn GN hr rfl pass0 (pa_cons (pv 1) pa_nil)) rfl) (pss_one (ps_fld (pv 0) (pv 1) rfl)), ?_⟩
    refine ⟨_, rfl, z, ns, rfl, hf, hps, fun t H2 s2 hn => ?_⟩
    have hp2 := s2 _ _ hp
    refine ⟨_, rfl, p, C, dx, [], rfl, hp2, T.cl, T.nN, (by show 0 < 1000; decide), _, rfl, _, rfl, p, C, dx, _, rfl, upd_same, T.cl, T.nT, (by show 1 < 1000; decide), ?_⟩
    have hb : But p H2 (upd (upd H2 p (.ins C dx (putF "nodes" (.ref t) []))) p (.ins C dx (putF "_text" (.str z) (putF "nodes" (.ref t) [])))) := ((But.refl p H2).put).put
    refine k t _ ((Same.but s2).trans hb) (by rw [upd_same, pflds_put]) ?_
    obtain ⟨as, ht, hl, ha⟩ := hn
    refine ⟨as, hb _ _ (ne_of ht hp2 (by intro z; cases z)) ht, hl, fun i a n h1 h2 => ?_⟩
    obtain ⟨t', g1, g2⟩ := ha i a n h1 h2
    exact ⟨t', hb _ _ (ne_of g1 hp2 (by intro z; cases z)) g1, hb _ _ (ne_of g2 hp2 (by intro z; cases z)) g2⟩
def sp_parse (C : Addr) : Sp := fun vs H Q _ => ∃ (z : Str) (ns : List Nd), vs = [.str z] ∧ Fits z ∧ parseT z = some ns ∧ ∀ p H', Same H H' → H p = none → ProgAt C H' p z ns → Q (.ref p) H'
theorem ok_parse {f C fI : Addr} {fd fdI : FuncData} (F : Fun K "parse" "Program.parse" s_Program_parse f fd) (T : TxtP K mg C) (M : Mk K C fI) (GI : FnOk P w K mg base CX0 4 fI fdI p_Program_init (sp_Program_init C)) (bI : Binds K fdI p_Program_init []) :
    FnOk P w K mg base CX0 6 f fd p_Program_parse (sp_parse C) := by
  refine F.ok sc_Program_parse (fun vs H Q E h => ?_) (fun cdv A outer s H vs Q E hr h => ?_)
  · obtain ⟨z, ns, rfl, _⟩ := h
    rfl
  · obtain ⟨z, ns, rfl, hf, hps, k⟩ := h
    refine ⟨_, pss_one (ps_ret (pe_make M GI hr rfl T.mgC bI .nil pass0 (pa_cons (pv 0) pa_nil))), ?_⟩
    refine ⟨_, rfl, fun x dx hx hdx hne => ?_⟩
    have s0 : Same H (upd (upd H dx (.own x)) x (.ins C dx [])) := same_upd (same_new hdx) hx
    refine ⟨x, dx, z, ns, rfl, upd_same, hf, hps, fun t H' hb hp hn => ⟨rfl, ?_⟩⟩
    exact k x H' (hb.same s0 hx) hx ⟨dx, t, hp, hn⟩
end
end Vf

set_option maxRecDepth 100000
set_option maxHeartbeats 4000000
namespace Vf
open PySem PySem.Spec PyProof.Rows L2
theorem SqT.same {K : PySem.W.Frag} {H H' : Hp} {a : Addr} {xs : List V} (h : SqT K H a xs) (s : Same H H') : SqT K H' a xs := by
  rcases h with (h | ⟨o, h⟩) | h
  · exact .inl (.inl (s _ _ h))
  · exact .inl (.inr ⟨o, s _ _ h⟩)
  · exact .inr h
theorem catA_any {K : PySem.W.Frag} {H : Hp} {a b : Addr} {xs ys : List V} {Q : VK} (ha : SqT K H a xs) (hb : SqT K H b ys) (fit : xs.length + ys.length ≤ 1000) (h : ∀ p H', Same H H' → SqT K H' p (xs ++ ys) → Q (.ref p) H') : rCatA K (.ref a) (.ref b) H Q := by
  refine ⟨a, b, xs, ys, rfl, rfl, ha, hb, by rw [sizeLine_eq]; omega, fun e => ?_, fun _ e => ?_, fun _ _ p hp => ?_⟩
  · subst e
    exact h b H (Same.refl _) hb
  · subst e
    exact h a H (Same.refl _) (by rw [List.append_nil]; exact ha)
  · exact h p _ (same_new hp) (SqT.of upd_same)
theorem slA_left {K : PySem.W.Frag} {H : Hp} {a : Addr} {xs : List V} {i : Nat} {Q : VK} (ha : SqT K H a xs) (hi : i < xs.length) (h : ∀ p H', Same H H' → SqT K H' p (xs.take i) → Q (.ref p) H') : rSlA K (.ref a) none (some (i : Int)) H Q := by
  refine ⟨a, xs, rfl, ha, fun e => ?_, fun _ p hp => ?_⟩
  · rw [HT.sIx_nat] at e
    omega
  · have e : cutV xs none (some (i : Int)) = xs.take i := by
      unfold cutV
      rw [HT.sIx_none, HT.sIx_nat, List.drop_zero, Nat.sub_zero, Nat.min_eq_left (by omega)]
    rw [e]
    exact h p _ (same_new hp) (SqT.of upd_same)
theorem slA_right {K : PySem.W.Frag} {H : Hp} {a : Addr} {xs : List V} {i : Nat} {Q : VK} (ha : SqT K H a xs) (hi : i < xs.length) (h : ∀ p H', Same H H' → SqT K H' p (xs.drop (i + 1)) → Q (.ref p) H') : rSlA K (.ref a) (some ((i : Int) + 1)) none H Q := by
  have e1 : ((i : Int) + 1) = ((i + 1 : Nat) : Int) := by omega
  rw [e1]
  refine ⟨a, xs, rfl, ha, fun e => ?_, fun _ p hp => ?_⟩
  · rw [HT.sIx_nat] at e
    omega
  · have e : cutV xs (some ((i + 1 : Nat) : Int)) none = xs.drop (i + 1) := by
      unfold cutV
      rw [HT.sIx_none, HT.sIx_nat, Nat.min_eq_left (by omega)]
      exact List.take_of_length_le (by rw [List.length_drop]; omega)
    rw [e]
    exact h p _ (same_new hp) (SqT.of upd_same)
theorem set_cut {α : Type} {xs : List α} {i : Nat} {x : α} (h : i < xs.length) : (xs.take i ++ [x]) ++ xs.drop (i + 1) = xs.set i x := by
  rw [List.set_eq_take_append_cons_drop, if_pos h, List.append_assoc]
  rfl
end Vf

set_option maxRecDepth 100000
set_option maxHeartbeats 8000000
namespace Vf
open PySem PySem.Spec PyProof.Rows L2
section
variable {P : Program} {w : World} {K : PySem.W.Frag} {mg : Str → Option Value} {base : Heap}
def sp_exchanged (K : PySem.W.Frag) : Sp := fun vs H Q _ => ∃ (a : Addr) (i : Nat) (x : V) (xs : List V), vs = [.ref a, .int (i : Int), x] ∧ SqT K H a xs ∧ i < xs.length ∧ xs.length ≤ 500 ∧ ∀ p H', Same H H' → SqT K H' p (xs.set i x) → Q (.ref p) H'
theorem ok_exchanged {f : Addr} {fd : FuncData} (F : Fun K "_exchanged" "_exchanged" s_exchanged f fd) : FnOk P w K mg base CX0 1 f fd p_exchanged (sp_exchanged K) := by
  refine F.ok sc_exchanged (fun vs H Q E h => ?_) (fun cdv A outer s H vs Q E hr h => ?_)
  · obtain ⟨a, i, x, xs, rfl, _⟩ := h
    rfl
  · obtain ⟨a, i, x, xs, rfl, ha, hi, few, k⟩ := h
    refine ⟨_, pss_one (ps_ret (pe_op op_catA (pe_op op_catA (pe_slice sl_tupA (pv 0) po_none (po_some (pv 1))) (pe_tup (pa_cons (pv 2) pa_nil))) (pe_slice sl_tupA (pv 0) (po_some (pe_op op_add (pv 1) pe_int)) po_none))), ?_⟩
    refine ⟨_, rfl, _, rfl, _, rfl, slA_left ha hi fun p3 H1 s1 h1 => ⟨_, rfl, (by show 1 ≤ sizeLine; decide), fun n2 hn2 => catA_any (Vf.SqT.same h1 (same_new hn2)) (SqT.of upd_same) (by rw [List.length_take]; show min i xs.length + 1 ≤ 1000; omega) fun p4 H2 s2 h2 => ?_⟩⟩
    have s02 := s1.trans ((same_new hn2).trans s2)
    refine ⟨_, rfl, _, rfl, _, _, rfl, rfl, _, rfl, ?_⟩
    dsimp only [tNoPart]
    refine slA_right (Vf.SqT.same ha s02) hi fun p5 H3 s3 h3 => catA_any (Vf.SqT.same h2 s3) h3 (by simp only [List.length_append, List.length_take, List.length_drop, List.length_singleton]; omega) fun p6 H4 s4 h4 => ?_
    rw [set_cut hi] at h4
    exact k p6 H4 (s02.trans (s3.trans s4)) h4
end
end Vf

set_option maxRecDepth 100000
set_option maxHeartbeats 8000000
namespace Vf
open PySem PySem.Spec PyProof.Rows L2
/-- who holds a line, and whether it is owned -/
abbrev Ln := List Nat × Bool
abbrev natV (ns : List Nat) : List V := ns.map fun n : Nat => V.int (n : Int)
/-- numbers, ascending -/
def srtN (ns : List Nat) : List Nat := ns.mergeSort fun a b => decide (a ≤ b)
theorem srtN_perm (ns : List Nat) : (srtN ns).Perm ns := List.mergeSort_perm _ _
theorem srtN_of {ns : List Nat} {ms : List Int} (p : ms.Perm (ns.map fun n : Nat => (n : Int))) (h : ms.Pairwise (· ≤ ·)) : ms = (srtN ns).map fun n : Nat => (n : Int) := by
  have h2 : ((srtN ns).map fun n : Nat => (n : Int)).Pairwise (· ≤ ·) := by
    rw [List.pairwise_map]
    refine List.Pairwise.imp ?_ (List.pairwise_mergeSort (le := fun a b : Nat => decide (a ≤ b)) (fun a b c h1 h2 => decide_eq_true (Nat.le_trans (of_decide_eq_true h1) (of_decide_eq_true h2))) (fun a b => by simp [Nat.le_total]) ns)
    intro a b hab
    have := of_decide_eq_true hab
    omega
  exact List.Perm.eq_of_pairwise (le := (· ≤ ·)) (fun a b _ _ h1 h2 => Int.le_antisymm h1 h2) h h2 (p.trans ((srtN_perm ns).map _).symm)
/-- a line's state in the heap -/
structure LnAt (K : PySem.W.Frag) (H : Hp) (q : Addr) (l : Ln) : Prop where
  ex : ∃ t, SqT K H q [.ref t, .bl l.2] ∧ SqT K H t (natV l.1)
theorem LnAt.same {K : PySem.W.Frag} {H H' : Hp} {q : Addr} {l : Ln} (h : LnAt K H q l) (s : Same H H') : LnAt K H' q l := by
  obtain ⟨t, h1, h2⟩ := h
  exact ⟨t, Vf.SqT.same h1 s, Vf.SqT.same h2 s⟩
/-- the lines of a state -/
structure HeldAt (K : PySem.W.Frag) (H : Hp) (a : Addr) (held : List Ln) : Prop where
  ex : ∃ qs : List (Addr × Ln), SqT K H a (qs.map fun q => V.ref q.1) ∧ (∀ q ∈ qs, LnAt K H q.1 q.2) ∧ qs.map Prod.snd = held
theorem HeldAt.same {K : PySem.W.Frag} {H H' : Hp} {a : Addr} {held : List Ln} (h : HeldAt K H a held) (s : Same H H') : HeldAt K H' a held := by
  obtain ⟨qs, h1, h2, h3⟩ := h
  exact ⟨qs, Vf.SqT.same h1 s, fun q hq => (h2 q hq).same s, h3⟩
/-- a read or a write by a thread at a line -/
def touch (held : List Ln) (th n : Nat) (wr : Bool) : Nat × List Ln :=
  let l := held.getD n ([], false)
  if th ∈ l.1 ∧ (l.2 = true ∨ wr = false) then (0, held) else (1, held.set n (if wr = true then [th] else srtN (l.1 ++ [th]), wr))
theorem inV_nat (i : Nat) : ∀ ns : List Nat, inV (.int (i : Int)) (natV ns) = decide (i ∈ ns)
  | [] => rfl
  | m :: ns => by
    have ih := inV_nat i ns
    unfold inV natV at ih ⊢
    rw [List.map_cons, List.any_cons, ih]
    show (((m : Int) == (i : Int)) || decide (i ∈ ns)) = decide (i ∈ m :: ns)
    by_cases e : m = i
    · subst e
      simp
    · have e2 : ¬ i = m := fun h => e h.symm
      have e3 : ¬ (m : Int) = (i : Int) := by omega
      simp [e2, e3]
theorem flat_nat (ns : List Nat) : (natV ns).all flatV = true := List.all_eq_true.mpr fun v hv => by
  obtain ⟨n, _, rfl⟩ := List.mem_map.mp hv
  rfl
theorem touch_stay {held : List Ln} {th n : Nat} {wr : Bool} {ns : List Nat} {ow : Bool} (e : held.getD n ([], false) = (ns, ow)) (h : th ∈ ns ∧ (ow = true ∨ wr = false)) : touch held th n wr = (0, held) := by
  unfold touch
  rw [e]
  exact if_pos h
theorem touch_go {held : List Ln} {th n : Nat} {wr : Bool} {ns : List Nat} {ow : Bool} (e : held.getD n ([], false) = (ns, ow)) (h : ¬ (th ∈ ns ∧ (ow = true ∨ wr = false))) : touch held th n wr = (1, held.set n (if wr = true then [th] else srtN (ns ++ [th]), wr)) := by
  unfold touch
  rw [e]
  exact if_neg h
theorem held_set {K : PySem.W.Frag} {H H3 : Hp} {p2 p3 b : Addr} {qs : List (Addr × Ln)} {n : Nat} {ms : List Nat} {wr : Bool} (hq : ∀ q ∈ qs, LnAt K H q.1 q.2) (s : Same H H3) (h3 : SqT K H3 p3 ((qs.map fun q => V.ref q.1).set n (.ref p2))) (h2 : SqT K H3 p2 [.ref b, .bl wr]) (hb : SqT K H3 b (natV ms)) : HeldAt K H3 p3 ((qs.map Prod.snd).set n (ms, wr)) := by
  refine ⟨qs.set n (p2, (ms, wr)), by rw [List.map_set]; exact h3, fun q hm => ?_, by rw [List.map_set]⟩
  rcases List.mem_or_eq_of_mem_set hm with h | h
  · exact (hq q h).same s
  · subst h
    exact ⟨b, h2, hb⟩
section
variable {P : Program} {w : World} {K : PySem.W.Frag} {mg : Str → Option Value} {base : Heap}
def sp_touched (K : PySem.W.Frag) : Sp := fun vs H Q _ => ∃ (a d tg : Addr) (held : List Ln) (th n : Nat) (wr : Bool), vs = [.ref a, .int (th : Int), .ref d] ∧ HeldAt K H a held ∧ SqT K H d [.int (n : Int), .bl wr, .ref tg] ∧ n < held.length ∧ held.length ≤ 100 ∧ (∀ l ∈ held, l.1.length ≤ 50) ∧
  ∀ p b H', Same H H' → H' p = some (.tup [.int ((touch held th n wr).1 : Nat), .ref b]) → HeldAt K H' b (touch held th n wr).2 → Q (.ref p) H'
theorem ok_touched {f : Addr} {fd : FuncData} (F : Fun K "_touched" "_touched" s_touched f fd) (T : Txt0 K mg) (GX : OkF P w K mg base CX0 "_exchanged" p_exchanged 1 (sp_exchanged K)) : FnOk P w K mg base CX0 2 f fd p_touched (sp_touched K) := by
  refine F.ok sc_touched (fun vs H Q E h => ?_) (fun cdv A outer s H vs Q E hr h => ?_)
  · obtain ⟨a, d, tg, held, th, n, wr, rfl, _⟩ := h
    rfl
  · obtain ⟨a, d, tg, held, th, n, wr, rfl, ⟨qs, hqs, hq, rfl⟩, hd, hn, lh, ll, k⟩ := h
    refine ⟨_, pss_cons (ps_asg (pv 2) (pg_tup (by rfl) (pgs_cons (pg_name (i := 3) sc_touched.nd rfl (Or.inl rfl)) (pgs_cons (pg_name (i := 4) sc_touched.nd rfl (Or.inl rfl)) (pgs_cons (pg_name (i := 5) sc_touched.nd rfl (Or.inl rfl)) pgs_nil)))))
      (pss_cons (ps_asg (pe_ix ix_tup (pv 0) (pv 3) (fun _ _ => rfl)) (pg_tup (by rfl) (pgs_cons (pg_name (i := 6) sc_touched.nd rfl (Or.inl rfl)) (pgs_cons (pg_name (i := 7) sc_touched.nd rfl (Or.inl rfl)) pgs_nil))))
      (pss_cons (ps_if (PW.pt (pw_and (pt_cmpR op_in_seq (pv 1) (pv 6) (by rfl)) (pw_and1 (PW.pt (pw_or (pt_val (pv 7)) (pw_or1 (pt_not (pt_val (pv 4))))))))) (pss_one (ps_ret (pe_tup (pa_cons pe_int (pa_cons (pv 0) pa_nil))))) pss_nil)
      (pss_cons (ps_set (i := 8) sc_touched.nd rfl (Or.inl rfl) (pe_ifExp (pt_val (pv 4)) (pe_tup (pa_cons (pv 1) pa_nil)) (pe_callTy call_tuple_of (by rfl) T.tuple (by decide +kernel) (pa_cons (pe_callB cr_sortedI (by rfl) T.sorted (by decide +kernel) (pa_cons (pe_lst (StX.pa_star (pv 6) (pa_cons (pv 1) pa_nil))) pa_nil)) pa_nil))))
      (pss_one (ps_ret (pe_tup (pa_cons pe_int (pa_cons (pe_fn GX hr rfl pass0 (pa_cons (pv 0) (pa_cons (pv 3) (pa_cons (pe_tup (pa_cons (pv 8) (pa_cons (pv 4) pa_nil))) pa_nil)))) pa_nil)))))))), ?_⟩
    have hi : n < qs.length := by rwa [List.length_map] at hn
    have hg : qs[n]? = some qs[n] := List.getElem?_eq_getElem hi
    generalize qs[n] = q at hg
    have hm := List.mem_of_getElem? hg
    obtain ⟨t, ht1, ht2⟩ := (hq q hm).ex
    obtain ⟨qa, ns, ow⟩ := q
    have lns : ns.length ≤ 50 := ll (ns, ow) (List.mem_map.mpr ⟨_, hm, rfl⟩)
    have egd : (qs.map Prod.snd).getD n ([], false) = (ns, ow) := by
      rw [List.getD_eq_getElem?_getD, List.getElem?_map, hg]
      rfl
    have hat : atI (qs.map fun q => V.ref q.1) (n : Int) = some (V.ref qa) := by
      refine atI_nat ?_
      rw [List.getElem?_map, hg]
      rfl
    have lq : (qs.map fun q : Addr × Ln => V.ref q.1).length ≤ 500 := by
      rw [List.length_map] at lh ⊢
      omega
    have lq2 : n < (qs.map fun q : Addr × Ln => V.ref q.1).length := by rwa [List.length_map]
    have stay : th ∈ ns ∧ (ow = true ∨ wr = false) → ∀ (p : Addr) (H' : Hp), Same H H' → H' p = some (.tup [.int 0, .ref a]) → Q (.ref p) H' := fun h p H' s1 hp => by
      refine k p a H' s1 ?_ ?_
      · rw [touch_stay egd h]
        exact hp
      · rw [touch_stay egd h]
        exact HeldAt.same ⟨qs, hqs, hq, rfl⟩ s1
    have go : ∀ ms, ¬ (th ∈ ns ∧ (ow = true ∨ wr = false)) → ms = (if wr = true then [th] else srtN (ns ++ [th])) → ∀ (p p3 : Addr) (H3 H' : Hp) (p2 b : Addr), Same H H3 → Same H3 H' → SqT K H3 p3 ((qs.map fun q => V.ref q.1).set n (.ref p2)) → SqT K H3 p2 [.ref b, .bl wr] → SqT K H3 b (natV ms) → H' p = some (.tup [.int 1, .ref p3]) → Q (.ref p) H' := fun ms h em p p3 H3 H' p2 b s1 s2 h3 h2 hb hp => by
      subst em
      refine k p p3 H' (s1.trans s2) ?_ ?_
      · rw [touch_go egd h]
        exact hp
      · rw [touch_go egd h]
        exact (held_set hq s1 h3 h2 hb).same s2
    refine ⟨_, rfl, d, _, rfl, hd, rfl, _, _, rfl, _, _, rfl, _, _, rfl, rfl, ?_⟩
    refine ⟨_, rfl, _, rfl, a, _, _, _, rfl, rfl, hqs, hat, qa, _, rfl, ht1, rfl, _, _, rfl, _, _, rfl, rfl, ?_⟩
    refine ⟨_, rfl, _, rfl, t, _, rfl, .inr ht2, rfl, flat_nat ns, _, rfl, ?_⟩
    show if (if false = true then !inV (.int (th : Int)) (natV ns) else inV (.int (th : Int)) (natV ns)) = true then _ else _
    rw [if_neg Bool.false_ne_true, inV_nat]
    have hl51 : (natV ns ++ [V.int (th : Int)]).length ≤ sizeLine := by
      rw [List.length_append, List.length_map]
      exact Nat.le_trans (Nat.add_le_add_right lns 1) (by decide)
    have hlst : ∀ {H' : Hp} {l : Addr}, SqL K H' l (natV ns ++ [V.int (th : Int)]) → SqL K H' l (((ns.map fun n : Nat => (n : Int)) ++ [(th : Int)]).map V.int) := fun h => by
      rw [List.map_append, List.map_map]
      exact h
    by_cases h1 : th ∈ ns
    · rw [decide_eq_true h1]
      refine iteT ⟨_, rfl, ow, rfl, ?_⟩
      cases ow with
      | true => exact iteT (iteT ⟨_, rfl, (by show 2 ≤ sizeLine; decide), fun p hp => stay ⟨h1, .inl rfl⟩ p _ (same_new hp) upd_same⟩)
      | false =>
        refine iteF ⟨_, rfl, wr, rfl, ?_⟩
        cases wr with
        | false => exact iteT ⟨_, rfl, (by show 2 ≤ sizeLine; decide), fun p hp => stay ⟨h1, .inr rfl⟩ p _ (same_new hp) upd_same⟩
        | true =>
          refine iteF ?_
          refine ⟨_, rfl, true, rfl, iteT ⟨_, rfl, (by show 1 ≤ sizeLine; decide), fun t1 ht => ?_⟩⟩
          refine ⟨_, rfl, _, rfl, _, rfl, _, rfl, (by show 2 ≤ sizeLine; decide), fun p2 hp2 => ?_⟩
          have sN : Same H (upd (upd H t1 (.tup [.int (th : Int)])) p2 (.tup [.ref t1, .bl true])) := (same_new ht).trans (same_new hp2)
          refine ⟨a, n, .ref p2, _, rfl, Vf.SqT.same hqs sN, lq2, lq, fun p3 H3 s3 h3 => ⟨(by show 2 ≤ sizeLine; decide), fun p4 hp4 => ?_⟩⟩
          exact go [th] (fun h => h.2.elim (by simp) (by simp)) (by rfl) p4 p3 H3 _ p2 t1 (sN.trans s3) (same_new hp4) h3 (Vf.SqT.same (SqT.of upd_same) s3) (Vf.SqT.same (Vf.SqT.same (SqT.of upd_same) (same_new hp2)) s3) upd_same
    · rw [decide_eq_false h1]
      refine iteF (iteF ?_)
      cases wr with
      | true =>
        refine ⟨_, rfl, true, rfl, iteT ⟨_, rfl, (by show 1 ≤ sizeLine; decide), fun t1 ht => ?_⟩⟩
        refine ⟨_, rfl, _, rfl, _, rfl, _, rfl, (by show 2 ≤ sizeLine; decide), fun p2 hp2 => ?_⟩
        have sN : Same H (upd (upd H t1 (.tup [.int (th : Int)])) p2 (.tup [.ref t1, .bl true])) := (same_new ht).trans (same_new hp2)
        refine ⟨a, n, .ref p2, _, rfl, Vf.SqT.same hqs sN, lq2, lq, fun p3 H3 s3 h3 => ⟨(by show 2 ≤ sizeLine; decide), fun p4 hp4 => ?_⟩⟩
        exact go [th] (fun h => h1 h.1) (by rfl) p4 p3 H3 _ p2 t1 (sN.trans s3) (same_new hp4) h3 (Vf.SqT.same (SqT.of upd_same) s3) (Vf.SqT.same (Vf.SqT.same (SqT.of upd_same) (same_new hp2)) s3) upd_same
      | false =>
        refine ⟨_, rfl, false, rfl, iteF ⟨_, rfl, t, natV ns, rfl, .inl ht2, _, rfl, hl51, fun l1 hl1 => ⟨l1, (ns.map fun n : Nat => (n : Int)) ++ [(th : Int)], rfl, hlst (SqL.of upd_same), fun ms l2 pm od hl2 => ⟨l2, ms.map V.int, rfl, .inl ⟨SqL.of upd_same, fun t1 ht => ?_⟩⟩⟩⟩⟩
        have em := srtN_of (ns := ns ++ [th]) (by simpa using pm) od
        subst em
        rw [List.map_map] at *
        refine ⟨_, rfl, _, rfl, _, rfl, _, rfl, (by show 2 ≤ sizeLine; decide), fun p2 hp2 => ?_⟩
        have sN := (((same_new hl1).trans (same_new hl2)).trans (same_new ht)).trans (same_new (o := .tup [.ref t1, .bl false]) hp2)
        refine ⟨a, n, .ref p2, _, rfl, Vf.SqT.same hqs sN, lq2, lq, fun p3 H3 s3 h3 => ⟨(by show 2 ≤ sizeLine; decide), fun p4 hp4 => ?_⟩⟩
        exact go (srtN (ns ++ [th])) (fun h => h1 h.1) (by rfl) p4 p3 H3 _ p2 t1 (sN.trans s3) (same_new hp4) h3 (Vf.SqT.same (SqT.of upd_same) s3) (Vf.SqT.same (Vf.SqT.same (SqT.of upd_same) (same_new hp2)) s3) upd_same
end
end Vf

set_option maxRecDepth 100000
set_option maxHeartbeats 8000000
namespace Vf
open PySem PySem.Spec PyProof.Rows L2
/-- what the top leaves for an untouched line -/
structure TxtN (K : PySem.W.Frag) (mg : Str → Option Value) (aN bN : Addr) : Prop where
  mgN : mg "NOT_HELD" = some (.ref aN)
  at_ : ∀ H, SqT K H aN [.ref bN, .bl false]
  in_ : ∀ H, SqT K H bN []
theorem sqL_kept {K : PySem.W.Frag} {H H' : Hp} {l : Addr} {xs : List V} (hl : SqL K H l xs) (s5 : Same H H') : SqL K H' l xs := by
  rcases hl with (h | ⟨o, h⟩) | h
  · exact .inl (.inl (s5 _ _ h))
  · exact .inl (.inr ⟨o, s5 _ _ h⟩)
  · exact .inr h
section
variable {P : Program} {w : World} {K : PySem.W.Frag} {mg : Str → Option Value} {base : Heap}
def sp_places_at_start (K : PySem.W.Frag) : Sp := fun vs H Q _ => ∃ (l : Addr) (ts : List Addr), vs = [.ref l] ∧ SqL K H l (ts.map V.ref) ∧ ts.length ≤ 100 ∧ ∀ p H', Same H H' → SqT K H' p (ts.map fun _ => V.int 0) → Q (.ref p) H'
theorem ok_places_at_start {f : Addr} {fd : FuncData} (F : Fun K "places_at_start" "places_at_start" s_places_at_start f fd) (T : Txt0 K mg) : FnOk P w K mg base CX0 1 f fd p_places_at_start (sp_places_at_start K) := by
  refine F.ok sc_places_at_start (fun vs H Q E h => ?_) (fun cdv A outer s H vs Q E hr h => ?_)
  · obtain ⟨l, ts, rfl, _⟩ := h
    rfl
  · obtain ⟨l, ts, rfl, hl, few, k⟩ := h
    refine ⟨_, pss_one (ps_ret (pe_callTy call_tuple_of (by rfl) T.tuple (by decide +kernel) (pa_cons (pe_lc (own := [("_", 1)]) (g := gName 1) (tt := tYes) rfl sc_places_at_start.nd (pi_list (pv 0)) (blkOk_by (N := n_places_at_start) (sc := defScope s_places_at_start) (by decide +kernel))
        (fun _ _ _ _ _ => pg_name (i := 1) sc_places_at_start.nd rfl (Or.inl rfl)) (fun _ _ _ _ _ => pts_nil) (fun _ _ _ _ _ => pe_int)) pa_nil))), ?_⟩
    refine ⟨_, rfl, l, rfl, ⟨_, hl⟩, fun D hD => lc_mp ts (walk_list (K := K) (a := l) (xs := ts.map V.ref) |> fun z => by rw [List.length_map] at z; exact z) hD (fun _ => .int 0) (by omega) (fun H5 s5 => sqL_kept hl s5) ?_ ?_⟩
    · rintro j z x H2 H3 hj s2 ⟨rfl, hx⟩ R hR
      exact ⟨rfl, hR _ (Same.refl _)⟩
    · intro H2 s2 hL
      exact ⟨D, _, rfl, .inl ⟨SqL.of hL, fun t1 ht => k t1 _ (s2.trans (same_new ht)) (SqT.of upd_same)⟩⟩
def sp_lines_at_start (K : PySem.W.Frag) (C : Addr) : Sp := fun vs H Q _ => ∃ (p sd nd : Addr) (cs : List (Str × Nat)) (r : Nat) (ls : List (List Str)), vs = [.ref p] ∧ LayAt C H p sd nd cs r ls ∧ ls.length ≤ 100 ∧ ∀ q H', Same H H' → HeldAt K H' q (ls.map fun _ => ([], false)) → Q (.ref q) H'
theorem ok_lines_at_start {f C aN bN : Addr} {fd : FuncData} (F : Fun K "lines_at_start" "lines_at_start" s_lines_at_start f fd) (T : Txt0 K mg) (TL : TxtL K mg C) (TN : TxtN K mg aN bN) : FnOk P w K mg base CX0 1 f fd p_lines_at_start (sp_lines_at_start K C) := by
  refine F.ok sc_lines_at_start (fun vs H Q E h => ?_) (fun cdv A outer s H vs Q E hr h => ?_)
  · obtain ⟨p, sd, nd, cs, r, ls, rfl, _⟩ := h
    rfl
  · obtain ⟨p, sd, nd, cs, r, ls, rfl, ⟨dx, t, qs, h1, h2, h3, h4, h5⟩, few, k⟩ := h
    have eN := TN.mgN
    refine ⟨_, pss_one (ps_ret (pe_callTy call_tuple_of (by rfl) T.tuple (by decide +kernel) (pa_cons (pe_lc (own := [("_", 1)]) (g := gName 1) (tt := tYes) rfl sc_lines_at_start.nd (pi_tup (pe_fld (pv 0) rfl)) (blkOk_by (N := n_lines_at_start) (sc := defScope s_lines_at_start) (by decide +kernel))
        (fun _ _ _ _ _ => pg_name (i := 1) sc_lines_at_start.nd rfl (Or.inl rfl)) (fun _ _ _ _ _ => pts_nil) (fun _ _ _ _ _ => pe_glob (v := .ref aN) rfl eN rfl)) pa_nil))), ?_⟩
    have lq : qs.length ≤ 100 := by rwa [← h5, List.length_map] at few
    have ht : SqT K H t (qs.map fun q => V.ref q.1) := SqT.of h4.1
    refine ⟨_, rfl, p, C, dx, _, _, rfl, h1, TL.cl, TL.nL, lk_lines, t, rfl, ⟨_, ht⟩, fun D hD => lc_mp qs (walk_tup (K := K) (a := t) (xs := qs.map fun q => V.ref q.1) |> fun z => by rw [List.length_map] at z; exact z) hD (fun _ => .ref aN) (by omega) (fun H5 s5 => Vf.SqT.same ht s5) ?_ ?_⟩
    · rintro j z x H2 H3 hj s2 ⟨rfl, hx⟩ R hR
      exact ⟨rfl, hR _ (Same.refl _)⟩
    · intro H2 s2 hL
      refine ⟨D, _, rfl, .inl ⟨SqL.of hL, fun t1 ht1 => k t1 _ (s2.trans (same_new ht1)) ⟨qs.map fun _ => (aN, ([], false)), SqT.of (by rw [upd_same, List.map_map]; rfl), fun q hq => ?_, by rw [List.map_map, ← h5, List.map_map]; rfl⟩⟩⟩
      obtain ⟨_, _, rfl⟩ := List.mem_map.mp hq
      exact ⟨bN, TN.at_ _, TN.in_ _⟩
end
end Vf

set_option maxRecDepth 100000
set_option maxHeartbeats 8000000
namespace Vf
open PySem PySem.Spec PyProof.Rows L2
def scIn (y : Str) (more : List (Str × NameKind)) : Scope := { kind := .function, names := (Str.ofString ".0", .local) :: (y, .local) :: more, isGenerator := false, isCoroutine := false }
theorem blkIn {N : List Str} {sc sc' scope : Scope} {own : List (Str × Nat)} (h : blkC N sc scope own = true) (e : sc'.names = sc.names) : BlkOk N sc' scope own :=
  let b := blkOk_by h
  ⟨b.kind, b.uniq, b.ix, fun y hy hf => by rw [e]; exact b.free y hy hf, b.own⟩
theorem lk_none {sd : Addr} {r : Nat} {t nd : Addr} {m : Str} (h : ¬ m = "_sizes" ∧ ¬ m = "room" ∧ ¬ m = "lines" ∧ ¬ m = "_numbers") : (lflds sd r t nd).lookup m = none := by
  unfold lflds
  rw [lk_ne (beq_eq_false_iff_ne.mpr h.1), lk_ne (beq_eq_false_iff_ne.mpr h.2.1), lk_ne (beq_eq_false_iff_ne.mpr h.2.2.1), lk_ne (beq_eq_false_iff_ne.mpr h.2.2.2)]
  rfl
theorem refs_of {α : Type} {H : Hp} {Pr : Addr → α → Hp → Prop} : ∀ (ls : List α) (xs : List V), xs.length = ls.length → (∀ (i : Nat) (a : α) (v : V), ls[i]? = some a → xs[i]? = some v → ∃ t, v = .ref t ∧ Pr t a H) →
    ∃ ps : List (Addr × α), xs = ps.map (fun q => V.ref q.1) ∧ ps.map Prod.snd = ls ∧ ∀ q ∈ ps, Pr q.1 q.2 H
  | [], [], _, _ => ⟨[], rfl, rfl, fun _ h => nomatch h⟩
  | [], _ :: _, h, _ => by simp at h
  | _ :: _, [], h, _ => by simp at h
  | a :: ls, v :: xs, h, hp => by
    obtain ⟨t, rfl, ht⟩ := hp 0 a v rfl rfl
    obtain ⟨ps, e1, e2, e3⟩ := refs_of (Pr := Pr) ls xs (by simpa using h) fun i a u h1 h2 => hp (i + 1) a u (by simpa using h1) (by simpa using h2)
    refine ⟨(t, a) :: ps, by rw [e1]; rfl, by rw [← e2]; rfl, fun q hq => ?_⟩
    rcases List.mem_cons.mp hq with rfl | hq
    · exact ht
    · exact e3 q hq
theorem sqT_but {K : PySem.W.Frag} {D : Addr} {H H' : Hp} {a : Addr} {xs acc : List V} (h : SqT K H a xs) (b : But D H H') (hD : H D = some (.lst acc)) : SqT K H' a xs := by
  rcases h with (h | ⟨o, h⟩) | h
  · exact .inl (.inl (b _ _ (ne_of h hD (by intro z; cases z)) h))
  · exact .inl (.inr ⟨o, b _ _ (ne_of h hD (by intro z; cases z)) h⟩)
  · exact .inr h
/-- a placed node: its line, whether it writes, its targets -/
def PndAt (K : PySem.W.Frag) (H : Hp) (a : Addr) (ls : List (List Str)) (n : Nd) : Prop := ∃ (t : Addr) (j : Nat), valV (mergeK [] (numPr ls)) (Sum.inr n.cell) = some (.int (j : Int)) ∧ SqT K H a [.int (j : Int), .bl (decide (V.str n.word = V.str sWrite)), .ref t] ∧ SqT K H t (n.tg.map tgV)
theorem PndAt.but {K : PySem.W.Frag} {D : Addr} {H H' : Hp} {a : Addr} {ls : List (List Str)} {n : Nd} {acc : List V} (h : PndAt K H a ls n) (b : But D H H') (hD : H D = some (.lst acc)) : PndAt K H' a ls n := by
  obtain ⟨t, j, h1, h2, h3⟩ := h
  exact ⟨t, j, h1, sqT_but h2 b hD, sqT_but h3 b hD⟩
section
variable {P : Program} {w : World} {K : PySem.W.Frag} {mg : Str → Option Value} {base : Heap}
/-- the programs of the threads -/
def ThrAt (C : Addr) (K : PySem.W.Frag) (H : Hp) (l : Addr) (ps : List (Addr × Str × List Nd)) : Prop := SqL K H l (ps.map fun p => V.ref p.1) ∧ ∀ p ∈ ps, ProgAt C H p.1 p.2.1 p.2.2
def PlcAt (K : PySem.W.Frag) (H : Hp) (l : Addr) (ls : List (List Str)) (es : List (List Nd)) : Prop := ∃ qs : List (Addr × List Nd), SqL K H l (qs.map fun q => V.ref q.1) ∧ qs.map Prod.snd = es ∧
  ∀ q ∈ qs, ∃ rs : List (Addr × Nd), SqL K H q.1 (rs.map fun r => V.ref r.1) ∧ rs.map Prod.snd = q.2 ∧ ∀ r ∈ rs, PndAt K H r.1 ls r.2
def sp_placed (K : PySem.W.Frag) (C CP : Addr) : Sp := fun vs H Q _ => ∃ (p sd nd l : Addr) (cs : List (Str × Nat)) (r : Nat) (ls : List (List Str)) (ps : List (Addr × Str × List Nd)), vs = [.ref p, .ref l] ∧ LayAt C H p sd nd cs r ls ∧ ThrAt CP K H l ps ∧ ps.length ≤ 100 ∧
  (∀ q ∈ ps, q.2.2.length ≤ 100 ∧ ∀ n ∈ q.2.2, ∃ j : Nat, valV (mergeK [] (numPr ls)) (Sum.inr n.cell) = some (.int (j : Int))) ∧ ∀ x H', Same H H' → PlcAt K H' x ls (ps.map fun q => q.2.2) → Q (.ref x) H'
theorem ok_placed {f C CP fl : Addr} {fd fdl : FuncData} (F : Fun K "placed" "placed" s_placed f fd) (T : Txt0 K mg) (eW : ∃ t, mg "WRITE" = some (.str sWrite t)) (TL : TxtL K mg C) (TP : TxtP K mg CP) (ml : Meth K C "line_of" fl) (Fl : FnOk P w K mg base CX0 1 fl fdl p_Layout_line_of (sp_Layout_line_of C)) (bl : Binds K fdl p_Layout_line_of []) :
    FnOk P w K mg base CX0 2 f fd p_placed (sp_placed K C CP) := by
  refine F.ok sc_placed (fun vs H Q E h => ?_) (fun cdv A outer s H vs Q E hr h => ?_)
  · obtain ⟨p, sd, nd, l, cs, r, ls, ps, rfl, _⟩ := h
    rfl
  · obtain ⟨p, sd, nd, l, cs, r, ls, ps, rfl, hlay, hthr, few, hc, k⟩ := h
    obtain ⟨tw, eW⟩ := eW
    refine ⟨_, pss_one (ps_ret (pe_lc (own := [("program", 2)]) (g := gName 2) (tt := tYes) rfl sc_placed.nd (pi_list (pv 1)) (blkOk_by (N := n_placed) (sc := defScope s_placed) (by decide +kernel))
        (fun _ _ _ _ _ => pg_name (i := 2) sc_placed.nd rfl (Or.inl rfl)) (fun _ _ _ _ _ => pts_nil)
        (fun _ _ _ _ _ => pe_lc (wi := iTup K (tFld K (tVar 2) "nodes")) (own := [("word", 3), ("cell", 4), ("targets", 5)]) (g := gTup K 3 (gCons (gName 3) (gCons (gName 4) (gCons (gName 5) gNil)))) (tt := tYes) rfl sc_placed.nd (pi_tup (pe_fld (pv 2) rfl)) (blkIn (N := n_placed) (sc := scIn "program" [("layout", .cell)]) (by decide +kernel) (by rfl))
          (fun _ _ _ _ _ => pg_tup (by rfl) (pgs_cons (pg_name (i := 3) sc_placed.nd rfl (Or.inl rfl)) (pgs_cons (pg_name (i := 4) sc_placed.nd rfl (Or.inl rfl)) (pgs_cons (pg_name (i := 5) sc_placed.nd rfl (Or.inl rfl)) pgs_nil)))) (fun _ _ _ _ _ => pts_nil)
          (fun _ _ _ _ _ => pe_tup (pa_cons (pe_meth (pv 0) TL.cl ml Fl hr bl .nil pass0 (pa_cons (pv 4) pa_nil)) (pa_cons (pe_cmpR op_eq (pv 3) (pe_glob (v := .str sWrite) rfl eW ⟨_, rfl⟩) (nomark _)) (pa_cons (pv 5) pa_nil))))))), ?_⟩
    have noL : ¬ (("line_of" : Str)) = "_sizes" ∧ ¬ (("line_of" : Str)) = "room" ∧ ¬ (("line_of" : Str)) = "lines" ∧ ¬ (("line_of" : Str)) = "_numbers" := by decide +kernel
    obtain ⟨dx, t0, qs0, h1, _⟩ := id hlay
    refine ⟨_, rfl, l, rfl, ⟨_, hthr.1⟩, fun D hD => lc_ad ps (walk_list (K := K) (a := l) (xs := ps.map fun p => V.ref p.1) |> fun z => by rw [List.length_map] at z; exact z) hD (fun b v H => ∃ y, v = .ref y ∧ ∃ rs : List (Addr × Nd), SqL K H y (rs.map fun r => V.ref r.1) ∧ rs.map Prod.snd = b.2.2 ∧ ∀ r ∈ rs, PndAt K H r.1 ls r.2) (by omega) (fun H5 s5 => sqL_kept hthr.1 s5) ?_ ?_⟩
    · rintro i b x H7 H8 hb s7 ⟨acc, hacc⟩ ⟨rfl, hx⟩ R hR
      rw [List.getElem?_map, hb] at hx
      obtain rfl : V.ref b.1 = x := Option.some.inj hx
      have hbm := List.mem_of_getElem? hb
      obtain ⟨hlen, hcl⟩ := hc b hbm
      obtain ⟨dx2, t, p1, as, p2, p3, p4⟩ := (hthr.2 b hbm).same s7
      have ht := SqT.of (K := K) p2
      have wq : Walk (Itt K t) b.2.2.length (fun H => SqT K H t (as.map V.ref)) (YAt (as.map V.ref)) := (walk_tup (K := K) (a := t) (xs := as.map V.ref) |> fun z => by rw [List.length_map, p3] at z; exact z)
      refine ⟨rfl, _, rfl, b.1, CP, dx2, _, _, rfl, p1, TP.cl, TP.nN, pflds_nodes _ _, t, rfl, ⟨_, ht⟩, fun L hL => lc_ad b.2.2 wq hL (fun n v H => ∃ y, v = .ref y ∧ PndAt K H y ls n) (by omega) (fun H9 s9 => Vf.SqT.same ht s9) ?_ ?_⟩
      · rintro j n y H9 H10 hn s9 ⟨acc2, hacc2⟩ ⟨rfl, hy⟩ R2 hR2
        have hj : j < as.length := by
          rw [p3]
          exact (List.getElem?_eq_some_iff.mp hn).1
        have ha : as[j]? = some as[j] := List.getElem?_eq_getElem hj
        generalize as[j] = a at ha
        rw [List.getElem?_map, ha] at hy
        obtain rfl : V.ref a = y := Option.some.inj hy
        obtain ⟨tg, g1, g2⟩ := (p4 j a n ha hn).same s9
        obtain ⟨ln, hln⟩ := hcl n (List.mem_of_getElem? hn)
        have s79 := s7.trans s9
        refine ⟨a, _, rfl, SqT.of g1, rfl, _, _, rfl, _, _, rfl, _, _, rfl, rfl, rfl, ?_⟩
        refine ⟨_, rfl, p, dx, _, rfl, s79 _ _ h1, lk_none noL, _, rfl, p, sd, nd, cs, r, ls, n.cell, ln, rfl, hlay.same s79, hln, ?_⟩
        refine ⟨_, rfl, rfl, _, rfl, (by show 3 ≤ sizeLine; decide), fun q hq => ?_⟩
        refine hR2 (.ref q) _ (same_new hq) fun H11 b11 => ⟨q, rfl, tg, ln, hln, ?_, ?_⟩
        · exact sqT_but (SqT.of upd_same) b11 (same_new hq _ _ hacc2)
        · exact sqT_but (Vf.SqT.same (SqT.of g2) (same_new hq)) b11 (same_new hq _ _ hacc2)
      · intro H9 xs s9 hL9 hlen9 hpr
        obtain ⟨rs, rfl, ers, hrs⟩ := refs_of (Pr := fun t (n : Nd) H => PndAt K H t ls n) b.2.2 xs hlen9 hpr
        refine hR (.ref L) _ s9 fun H11 b11 => ⟨L, rfl, rs, SqL.of (b11 L _ (ne_of_none hacc hL).symm hL9), ers, fun r hr => (hrs r hr).but b11 (s9 _ _ hacc)⟩
    · intro H9 xs s9 hL9 hlen9 hpr
      obtain ⟨rs, rfl, ers, hrs⟩ := refs_of (Pr := fun y (b : Addr × Str × List Nd) H => ∃ rs : List (Addr × Nd), SqL K H y (rs.map fun r => V.ref r.1) ∧ rs.map Prod.snd = b.2.2 ∧ ∀ r ∈ rs, PndAt K H r.1 ls r.2) ps xs hlen9 hpr
      refine k D H9 s9 ⟨rs.map fun r => (r.1, r.2.2.2), SqL.of (by rw [hL9, List.map_map]; rfl), by rw [← ers, List.map_map, List.map_map]; rfl, fun q hq => ?_⟩
      obtain ⟨r', hr', rfl⟩ := List.mem_map.mp hq
      exact hrs r' hr'
end
end Vf

set_option maxRecDepth 100000
set_option maxHeartbeats 8000000
namespace Vf
open PySem PySem.Spec PyProof.Rows L2
/-- a place: the number of a node, or none -/
def plV : Option Nat → V
  | none => .non
  | some i => .int (i : Int)
/-- a state -/
def StAt (K : PySem.W.Frag) (H : Hp) (a : Addr) (pl : List (Option Nat)) (held : List Ln) : Prop := ∃ t u : Addr, SqT K H a [.ref t, .ref u] ∧ SqT K H t (pl.map plV) ∧ HeldAt K H u held
theorem StAt.same {K : PySem.W.Frag} {H H' : Hp} {a : Addr} {pl : List (Option Nat)} {held : List Ln} (h : StAt K H a pl held) (s : Same H H') : StAt K H' a pl held := by
  obtain ⟨t, u, h1, h2, h3⟩ := h
  exact ⟨t, u, Vf.SqT.same h1 s, Vf.SqT.same h2 s, h3.same s⟩
theorem ThrAt.same {C : Addr} {K : PySem.W.Frag} {H H' : Hp} {l : Addr} {ps : List (Addr × Str × List Nd)} (h : ThrAt C K H l ps) (s : Same H H') : ThrAt C K H' l ps := ⟨sqL_kept h.1 s, fun p hp => (h.2 p hp).same s⟩
section
variable {P : Program} {w : World} {K : PySem.W.Frag} {mg : Str → Option Value} {base : Heap}
def sp_start (K : PySem.W.Frag) (C CP : Addr) : Sp := fun vs H Q _ => ∃ (p sd nd l : Addr) (cs : List (Str × Nat)) (r : Nat) (ls : List (List Str)) (ps : List (Addr × Str × List Nd)), vs = [.ref p, .ref l] ∧ LayAt C H p sd nd cs r ls ∧ ThrAt CP K H l ps ∧ ps.length ≤ 100 ∧ ls.length ≤ 100 ∧
  (∀ q ∈ ps, q.2.2.length ≤ 100 ∧ ∀ n ∈ q.2.2, ∃ j : Nat, valV (mergeK [] (numPr ls)) (Sum.inr n.cell) = some (.int (j : Int))) ∧ ∀ x H', Same H H' → StAt K H' x (ps.map fun _ => some 0) (ls.map fun _ => ([], false)) → Q (.ref x) H'
theorem ok_start {f C CP : Addr} {fd : FuncData} (F : Fun K "start" "start" s_start f fd) (GP : OkF P w K mg base CX0 "placed" p_placed 2 (sp_placed K C CP)) (GS : OkF P w K mg base CX0 "places_at_start" p_places_at_start 1 (sp_places_at_start K)) (GL : OkF P w K mg base CX0 "lines_at_start" p_lines_at_start 1 (sp_lines_at_start K C)) :
    FnOk P w K mg base CX0 3 f fd p_start (sp_start K C CP) := by
  refine F.ok sc_start (fun vs H Q E h => ?_) (fun cdv A outer s H vs Q E hr h => ?_)
  · obtain ⟨p, sd, nd, l, cs, r, ls, ps, rfl, _⟩ := h
    rfl
  · obtain ⟨p, sd, nd, l, cs, r, ls, ps, rfl, hlay, hthr, few, fewl, hc, k⟩ := h
    have hr1 := hr.mono (show 1 ≤ 2 by decide)
    refine ⟨_, pss_cons (ps_expr (pe_fn GP hr rfl pass0 (pa_cons (pv 0) (pa_cons (pv 1) pa_nil)))) (pss_one (ps_ret (pe_tup (pa_cons (pe_fn GS hr1 rfl pass0 (pa_cons (pv 1) pa_nil)) (pa_cons (pe_fn GL hr1 rfl pass0 (pa_cons (pv 0) pa_nil)) pa_nil))))), ?_⟩
    refine ⟨_, rfl, _, rfl, p, sd, nd, l, cs, r, ls, ps, rfl, hlay, hthr, few, hc, fun x H2 s2 _ => ?_⟩
    refine ⟨_, rfl, l, ps.map Prod.fst, rfl, by rw [List.map_map]; exact sqL_kept hthr.1 s2, by rw [List.length_map]; exact few, fun t H3 s3 ht => ?_⟩
    refine ⟨_, rfl, p, sd, nd, cs, r, ls, rfl, hlay.same (s2.trans s3), fewl, fun u H4 s4 hu => ⟨(by show 2 ≤ sizeLine; decide), fun q hq => ?_⟩⟩
    refine k q _ ((s2.trans s3).trans (s4.trans (same_new hq))) ⟨t, u, SqT.of upd_same, ?_, hu.same (same_new hq)⟩
    rw [List.map_map] at ht ⊢
    exact Vf.SqT.same ht (s4.trans (same_new hq))
end
end Vf

set_option maxRecDepth 100000
set_option maxHeartbeats 8000000
namespace Vf
open PySem PySem.Spec PyProof.Rows L2
/-- the number of a cell's line -/
def lineNo (ls : List (List Str)) (z : Str) : Nat := match valV (mergeK [] (numPr ls)) (Sum.inr z) with
  | some (.int j) => j.toNat
  | _ => 0
theorem lineNo_of {ls : List (List Str)} {z : Str} {j : Nat} (h : valV (mergeK [] (numPr ls)) (Sum.inr z) = some (.int (j : Int))) : lineNo ls z = j := by
  unfold lineNo
  rw [h]
  rfl
def wrN (n : Nd) : Bool := decide (V.str n.word = V.str sWrite)
/-- thread, target, moves, places and lines behind -/
abbrev Step := Nat × Option Nat × Nat × List (Option Nat) × List Ln
def stepsT (ls : List (List Str)) (es : List (List Nd)) (pl : List (Option Nat)) (held : List Ln) (th : Nat) : List Step :=
  match pl.getD th none with
  | none => []
  | some i => match (es.getD th [])[i]? with
    | none => []
    | some n => n.tg.map fun g => (th, g, (touch held th (lineNo ls n.cell) (wrN n)).1, pl.set th g, (touch held th (lineNo ls n.cell) (wrN n)).2)
def stepsM (ls : List (List Str)) (es : List (List Nd)) (pl : List (Option Nat)) (held : List Ln) : List Step := (List.range pl.length).flatMap (stepsT ls es pl held)
theorem plV_tgV : ∀ g, plV g = tgV g
  | none => rfl
  | some _ => rfl
def StepAt (K : PySem.W.Frag) (H : Hp) (a : Addr) (s : Step) : Prop := ∃ b : Addr, SqT K H a [.int (s.1 : Int), plV s.2.1, .int (s.2.2.1 : Int), .ref b] ∧ StAt K H b s.2.2.2.1 s.2.2.2.2
theorem LnAt.but {K : PySem.W.Frag} {D : Addr} {H H' : Hp} {a : Addr} {l : Ln} {acc : List V} (h : LnAt K H a l) (b : But D H H') (hD : H D = some (.lst acc)) : LnAt K H' a l := by
  obtain ⟨t, h1, h2⟩ := h
  exact ⟨t, sqT_but h1 b hD, sqT_but h2 b hD⟩
theorem HeldAt.but {K : PySem.W.Frag} {D : Addr} {H H' : Hp} {a : Addr} {held : List Ln} {acc : List V} (h : HeldAt K H a held) (b : But D H H') (hD : H D = some (.lst acc)) : HeldAt K H' a held := by
  obtain ⟨qs, h1, h2, h3⟩ := h
  exact ⟨qs, sqT_but h1 b hD, fun q hq => (h2 q hq).but b hD, h3⟩
theorem StAt.but {K : PySem.W.Frag} {D : Addr} {H H' : Hp} {a : Addr} {pl : List (Option Nat)} {held : List Ln} {acc : List V} (h : StAt K H a pl held) (b : But D H H') (hD : H D = some (.lst acc)) : StAt K H' a pl held := by
  obtain ⟨t, u, h1, h2, h3⟩ := h
  exact ⟨t, u, sqT_but h1 b hD, sqT_but h2 b hD, h3.but b hD⟩
theorem StepAt.but {K : PySem.W.Frag} {D : Addr} {H H' : Hp} {a : Addr} {s : Step} {acc : List V} (h : StepAt K H a s) (b : But D H H') (hD : H D = some (.lst acc)) : StepAt K H' a s := by
  obtain ⟨t, h1, h2⟩ := h
  exact ⟨t, sqT_but h1 b hD, h2.but b hD⟩
theorem StepAt.same {K : PySem.W.Frag} {H H' : Hp} {a : Addr} {s : Step} (h : StepAt K H a s) (b : Same H H') : StepAt K H' a s := by
  obtain ⟨t, h1, h2⟩ := h
  exact ⟨t, Vf.SqT.same h1 b, h2.same b⟩
/-- the list of steps -/
def StepsAt (K : PySem.W.Frag) (H : Hp) (l : Addr) (ss : List Step) : Prop := ∃ qs : List (Addr × Step), H l = some (.lst (qs.map fun q => V.ref q.1)) ∧ qs.map Prod.snd = ss ∧ ∀ q ∈ qs, StepAt K H q.1 q.2
theorem stepsT_len {ls : List (List Str)} {es : List (List Nd)} {pl : List (Option Nat)} {held : List Ln} (h : ∀ ns ∈ es, ∀ n ∈ ns, n.tg.length ≤ 100) (th : Nat) : (stepsT ls es pl held th).length ≤ 100 := by
  unfold stepsT
  cases pl.getD th none with
  | none => exact Nat.zero_le _
  | some i =>
    dsimp only
    cases e : (es.getD th [])[i]? with
    | none => exact Nat.zero_le _
    | some n =>
      dsimp only
      rw [List.length_map]
      have h1 := List.mem_of_getElem? e
      rw [List.getD_eq_getElem?_getD] at h1
      cases e2 : es[th]? with
      | none =>
        rw [e2] at h1
        cases h1
      | some ns =>
        rw [e2] at h1
        exact h ns (List.mem_of_getElem? e2) n h1
theorem steps_len {ls : List (List Str)} {es : List (List Nd)} {pl : List (Option Nat)} {held : List Ln} (h : ∀ ns ∈ es, ∀ n ∈ ns, n.tg.length ≤ 100) : ∀ i : Nat, ((List.range i).flatMap (stepsT ls es pl held)).length ≤ 100 * i
  | 0 => Nat.zero_le _
  | i + 1 => by
    rw [List.range_succ, List.flatMap_append, List.length_append, List.flatMap_cons, List.flatMap_nil, List.append_nil]
    have h1 := steps_len (ls := ls) (pl := pl) (held := held) h i
    have h2 := stepsT_len (ls := ls) (pl := pl) (held := held) h i
    omega
section
variable {P : Program} {w : World} {K : PySem.W.Frag} {mg : Str → Option Value} {base : Heap}
def sp_steps_ahead (K : PySem.W.Frag) : Sp := fun vs H Q _ => ∃ (l a : Addr) (ls : List (List Str)) (es : List (List Nd)) (pl : List (Option Nat)) (held : List Ln), vs = [.ref l, .ref a] ∧ PlcAt K H l ls es ∧ StAt K H a pl held ∧
  pl.length = es.length ∧ pl.length ≤ 100 ∧ held.length = ls.length ∧ ls.length ≤ 100 ∧ (∀ l ∈ held, l.1.length ≤ 50) ∧ (∀ ns ∈ es, ∀ n ∈ ns, n.tg.length ≤ 100 ∧ lineNo ls n.cell < ls.length) ∧ (∀ (th i : Nat), pl[th]? = some (some i) → i < (es.getD th []).length) ∧
  ∀ x H', H x = none → Same H H' → StepsAt K H' x (stepsM ls es pl held) → Q (.ref x) H'
theorem ok_steps_ahead {f : Addr} {fd : FuncData} (F : Fun K "steps_ahead" "steps_ahead" s_steps_ahead f fd) (T : Txt0 K mg) (GT : OkF P w K mg base CX0 "_touched" p_touched 2 (sp_touched K)) (GX : OkF P w K mg base CX0 "_exchanged" p_exchanged 1 (sp_exchanged K)) : FnOk P w K mg base CX0 3 f fd p_steps_ahead (sp_steps_ahead K) := by
  refine F.ok sc_steps_ahead (fun vs H Q E h => ?_) (fun cdv A outer s H vs Q E hr h => ?_)
  · obtain ⟨l, a, ls, es, pl, held, rfl, _⟩ := h
    rfl
  · obtain ⟨l, a, ls, es, pl, held, rfl, hplc, ⟨tp, th_, hs1, hs2, hs3⟩, hlen, few, hlh, fewl, hho, hno, hpl, k⟩ := h
    have hr1 := hr.mono (show 1 ≤ 2 by decide)
    refine ⟨_, pss_cons (ps_asg (pv 1) (pg_tup (by rfl) (pgs_cons (pg_name (i := 2) sc_steps_ahead.nd rfl (Or.inl rfl)) (pgs_cons (pg_name (i := 3) sc_steps_ahead.nd rfl (Or.inl rfl)) pgs_nil))))
      (pss_cons (ps_set (i := 4) sc_steps_ahead.nd rfl (Or.inl rfl) (pe_lst pa_nil))
      (pss_cons (ps_for PassesOwn.never rfl (pi_enumT (by rfl) T.enumerate (pa_cons (pv 2) pa_nil))
          (pg_tup (by rfl) (pgs_cons (pg_name (i := 5) sc_steps_ahead.nd rfl (Or.inl rfl)) (pgs_cons (pg_name (i := 6) sc_steps_ahead.nd rfl (Or.inl rfl)) pgs_nil)))
          (pss_one (ps_if (pt_cmpR op_notN (pv 6) pe_non (nomark _))
            (pss_cons (ps_set (i := 7) sc_steps_ahead.nd rfl (Or.inl rfl) (pe_ix ix_list (pe_ix ix_list (pv 0) (pv 5) (fun _ _ => rfl)) (pv 6) (fun _ _ => rfl)))
            (pss_cons (ps_asg (pe_fn GT hr rfl pass0 (pa_cons (pv 3) (pa_cons (pv 5) (pa_cons (pv 7) pa_nil)))) (pg_tup (by rfl) (pgs_cons (pg_name (i := 8) sc_steps_ahead.nd rfl (Or.inl rfl)) (pgs_cons (pg_name (i := 9) sc_steps_ahead.nd rfl (Or.inl rfl)) pgs_nil))))
            (pss_one (ps_for PassesOwn.never rfl (pi_tup (pe_ix ix_tup (pv 7) pe_int (fun _ _ => rfl))) (pg_name (i := 10) sc_steps_ahead.nd rfl (Or.inl rfl))
              (pss_one (ps_expr (pe_bm PySem.F.plainAttrs_list PySem.F.slot_list_append PySem.F.type_list_append mt_append (pv 4) (pa_cons (pe_tup (pa_cons (pv 5) (pa_cons (pv 10) (pa_cons (pv 8) (pa_cons (pe_tup (pa_cons (pe_fn GX hr1 rfl pass0 (pa_cons (pv 2) (pa_cons (pv 5) (pa_cons (pv 10) pa_nil)))) (pa_cons (pv 9) pa_nil))) pa_nil))))) pa_nil)))))))) pss_nil)))
      (pss_one (ps_ret (pv 4))))), ?_⟩
    obtain ⟨Qs, hq1, rfl, hq3⟩ := hplc
    have hno1 : ∀ ns ∈ Qs.map Prod.snd, ∀ n ∈ ns, n.tg.length ≤ 100 := fun ns h1 n h2 => (hno ns h1 n h2).1
    refine ⟨_, rfl, a, _, rfl, hs1, rfl, _, _, rfl, _, _, rfl, rfl, Nat.zero_le _, fun l4 hl4 => ?_⟩
    have e4 : (upd H l4 (.lst [])) l4 = some (.lst []) := upd_same
    have s4 := same_new (o := .lst []) hl4
    generalize upd H l4 (.lst []) = H1 at e4 s4 ⊢
    refine ⟨_, rfl, tp, _, rfl, Vf.SqT.same hs2 s4, for_it (walk_enumT (K := K) (a := tp) (xs := pl.map plV)) (fun i σ H' => ∃ (v5 v6 v7 v8 v9 v10 : Option V) (qs : List (Addr × Step)), σ = [some (.ref l), some (.ref a), some (.ref tp), some (.ref th_), some (.ref l4), v5, v6, v7, v8, v9, v10] ∧
        But l4 H1 H' ∧ H' l4 = some (.lst (qs.map fun q => V.ref q.1)) ∧ qs.map Prod.snd = (List.range i).flatMap (stepsT ls (Qs.map Prod.snd) pl held) ∧ ∀ q ∈ qs, StepAt K H' q.1 q.2)
      ⟨_, _, _, _, _, _, [], rfl, But.refl _ _, e4, rfl, fun q hq => nomatch hq⟩ (fun i σ H' _ ⟨_, _, _, _, _, _, _, _, hb, _⟩ => Vf.SqT.same hs2 (hb.same s4 hl4)) ?_ ?_⟩
    · rintro i x σ H3 H4 hi ⟨v5, v6, v7, v8, v9, v10, qs, rfl, hb, hla, hqs, hst⟩ ⟨T1, x1, x2, rfl, hT1, rfl, hx1, hx2⟩
      rw [List.length_map] at hi
      obtain rfl : V.int (i : Nat) = x1 := Option.some.inj hx1
      have hpi : pl[i]? = some pl[i] := List.getElem?_eq_getElem hi
      generalize pl[i] = pi at hpi
      replace hx2 : (pl.map plV)[i]? = some x2 := hx2
      rw [List.getElem?_map, hpi] at hx2
      obtain rfl : plV pi = x2 := Option.some.inj hx2
      have egp : pl.getD i none = pi := by
        rw [List.getD_eq_getElem?_getD, hpi]
        rfl
      have s3 : Same H (upd H3 T1 (.tup [.int (i : Nat), plV pi])) := (hb.same s4 hl4).trans (same_new hT1)
      have hb3 : But l4 H1 (upd H3 T1 (.tup [.int (i : Nat), plV pi])) := hb.then (same_new hT1)
      have hla3 := same_new (o := .tup [.int (i : Nat), plV pi]) hT1 _ _ hla
      have hst3 : ∀ q ∈ qs, StepAt K (upd H3 T1 (.tup [.int (i : Nat), plV pi])) q.1 q.2 := fun q hq => (hst q hq).same (same_new hT1)
      refine ⟨T1, _, rfl, SqT.of upd_same, rfl, _, _, rfl, _, _, rfl, rfl, ?_⟩
      generalize upd H3 T1 (.tup [.int (i : Nat), plV pi]) = H5 at s3 hb3 hla3 hst3 ⊢
      cases pi with
      | none =>
        refine ⟨_, rfl, rfl, _, rfl, iteF ?_⟩
        refine ⟨_, _, _, _, _, _, qs, rfl, hb3, hla3, ?_, hst3⟩
        rw [List.range_succ, List.flatMap_append, hqs, List.flatMap_cons, List.flatMap_nil]
        unfold stepsT
        rw [egp]
        simp
      | some m =>
        refine ⟨_, rfl, rfl, _, rfl, iteT ?_⟩
        have hiQ : i < Qs.length := by rw [List.length_map] at hlen; omega
        have hQ : Qs[i]? = some Qs[i] := List.getElem?_eq_getElem hiQ
        generalize Qs[i] = Qi at hQ
        obtain ⟨rs, r1, r2, r3⟩ := hq3 Qi (List.mem_of_getElem? hQ)
        have ege : (Qs.map Prod.snd).getD i [] = Qi.2 := by
          rw [List.getD_eq_getElem?_getD, List.getElem?_map, hQ]
          rfl
        have hm : m < rs.length := by
          have := hpl i m hpi
          rw [ege, ← r2, List.length_map] at this
          exact this
        have hR : rs[m]? = some rs[m] := List.getElem?_eq_getElem hm
        generalize rs[m] = rm at hR
        have hRn : Qi.2[m]? = some rm.2 := by
          rw [← r2, List.getElem?_map, hR]
          rfl
        obtain ⟨t, j, hv, g1, g2⟩ := r3 rm (List.mem_of_getElem? hR)
        have hmn : Qi.2 ∈ Qs.map Prod.snd := List.mem_map.mpr ⟨_, List.mem_of_getElem? hQ, rfl⟩
        obtain ⟨ntg, nln⟩ := hno Qi.2 hmn rm.2 (List.mem_of_getElem? hRn)
        have eln := lineNo_of hv
        rw [eln] at nln
        refine ⟨_, rfl, _, rfl, l, _, _, _, rfl, rfl, sqL_kept hq1 s3, atI_nat (j := i) (by rw [List.getElem?_map, hQ]; rfl), _, rfl, Qi.1, _, _, _, rfl, rfl, sqL_kept r1 s3, atI_nat (j := m) (by rw [List.getElem?_map, hR]; rfl), ?_⟩
        refine ⟨_, rfl, _, rfl, _, rfl, th_, rm.1, t, held, i, j, wrN rm.2, rfl, hs3.same s3, Vf.SqT.same g1 s3, by omega, by omega, hho, fun p2 b2 H6 s6 hp2 hheld => ?_⟩
        refine ⟨p2, _, rfl, SqT.of hp2, rfl, _, _, rfl, _, _, rfl, rfl, ?_⟩
        have s06 := s3.trans s6
        have hla6 := s6 _ _ hla3
        generalize hmv : touch held i j (wrN rm.2) = mv at hheld ⊢
        refine ⟨_, rfl, rm.1, _, _, _, rfl, rfl, Vf.SqT.same g1 s06, rfl, t, rfl, ⟨_, Vf.SqT.same g2 s06⟩, for_it (walk_tup (K := K) (a := t) (xs := rm.2.tg.map tgV)) (fun y σ H' => ∃ (v10 : Option V) (qs2 : List (Addr × Step)), σ = [some (.ref l), some (.ref a), some (.ref tp), some (.ref th_), some (.ref l4), some (.int (i : Int)), some (.int (m : Int)), some (.ref rm.1), some (.int (mv.1 : Int)), some (.ref b2), v10] ∧
            But l4 H6 H' ∧ H' l4 = some (.lst (qs2.map fun q => V.ref q.1)) ∧ qs2.map Prod.snd = qs.map Prod.snd ++ ((rm.2.tg.take y).map fun g => (i, g, mv.1, pl.set i g, mv.2)) ∧ ∀ q ∈ qs2, StepAt K H' q.1 q.2)
          ⟨_, qs, rfl, But.refl _ _, hla6, by simp, fun q hq => (hst3 q hq).same s6⟩ (fun y σ H' _ ⟨_, _, _, hb2, _⟩ => Vf.SqT.same g2 ((hb3.then s6).trans hb2 |>.same s4 hl4)) ?_ ?_⟩
        · rintro y x σ H7 H8 hy ⟨v10', qs2, rfl, hb7, hla7, hqs7, hst7⟩ ⟨rfl, hx⟩
          rw [List.length_map] at hy
          have hg : rm.2.tg[y]? = some rm.2.tg[y] := List.getElem?_eq_getElem hy
          generalize rm.2.tg[y] = g at hg
          rw [List.getElem?_map, hg] at hx
          obtain rfl : tgV g = x := Option.some.inj hx
          have s8 := (((hb3.then s6).trans hb7).same s4 hl4)
          have lq2 : qs2.length < sizeLine := by
            have h1 := congrArg List.length hqs7
            rw [hqs] at h1
            rw [List.length_map, List.length_append, List.length_map, List.length_take] at h1
            have h2 := steps_len (ls := ls) (pl := pl) (held := held) hno1 i
            rw [sizeLine_eq]
            omega
          refine ⟨_, rfl, .inl ⟨rfl, _, SqL.of hla7⟩, _, rfl, _, rfl, _, rfl, _, rfl, _, rfl, _, rfl, tp, i, plV g, pl.map plV, (by rw [plV_tgV]; rfl), Vf.SqT.same hs2 s8, by rw [List.length_map]; exact hi, by rw [List.length_map]; omega, fun p6 H9 s9 h6 => ?_⟩
          refine ⟨_, rfl, (by show 2 ≤ sizeLine; decide), fun p7 hp7 => ⟨(by show 4 ≤ sizeLine; decide), fun p8 hp8 => ?_⟩⟩
          have ss := (s9.trans (same_new (o := .tup [.ref p6, .ref b2]) hp7)).trans (same_new (o := .tup [.int (i : Int), tgV g, .int (mv.1 : Int), .ref p7]) hp8)
          have hla8 := ss _ _ hla7
          have at8 : StepAt K (upd (upd H9 p7 (.tup [.ref p6, .ref b2])) p8 (.tup [.int (i : Int), tgV g, .int (mv.1 : Int), .ref p7])) p8 (i, g, mv.1, pl.set i g, mv.2) := by
            refine ⟨p7, by rw [plV_tgV]; exact SqT.of upd_same, p6, b2, Vf.SqT.same (SqT.of upd_same) (same_new hp8), ?_, ?_⟩
            · rw [List.map_set]
              exact Vf.SqT.same (Vf.SqT.same h6 (same_new hp7)) (same_new hp8)
            · exact (hheld.but hb7 hla6).same ss
          have hst8 : ∀ q ∈ qs2, StepAt K (upd (upd H9 p7 (.tup [.ref p6, .ref b2])) p8 (.tup [.int (i : Int), tgV g, .int (mv.1 : Int), .ref p7])) q.1 q.2 := fun q hq => (hst7 q hq).same ss
          have hb8 := hb7.then ss
          generalize upd (upd H9 p7 (.tup [.ref p6, .ref b2])) p8 (.tup [.int (i : Int), tgV g, .int (mv.1 : Int), .ref p7]) = H10 at hla8 at8 hst8 hb8 ⊢
          refine ⟨l4, _, _, rfl, rfl, hla8, by rw [List.length_map]; exact lq2, _, qs2 ++ [(p8, (i, g, mv.1, pl.set i g, mv.2))], rfl, hb8.put, by rw [upd_same, List.map_append]; rfl, ?_, fun q hq => ?_⟩
          · rw [List.map_append, hqs7, List.take_add_one, hg]
            simp
          · have hbut : But l4 H10 (upd H10 l4 (.lst (qs2.map (fun q => V.ref q.1) ++ [.ref p8]))) := (But.refl l4 H10).put
            rcases List.mem_append.mp hq with hq | hq
            · exact (hst8 q hq).but hbut hla8
            · rw [List.mem_singleton.mp hq]
              exact at8.but hbut hla8
        · rintro σ H7 ⟨v10', qs2, rfl, hb7, hla7, hqs7, hst7⟩
          refine ⟨_, _, _, _, _, _, qs2, rfl, (hb3.then s6).trans hb7, hla7, ?_, hst7⟩
          rw [hqs7, hqs, List.range_succ, List.flatMap_append, List.flatMap_cons, List.flatMap_nil, List.append_nil, List.length_map, List.take_length]
          congr 1
          unfold stepsT
          rw [egp, ege]
          dsimp only
          rw [hRn]
          dsimp only
          rw [eln, hmv]
    · rintro σ H3 ⟨v5, v6, v7, v8, v9, v10, qs, rfl, hb, hla, hqs, hst⟩
      rw [List.length_map] at hqs
      exact ⟨_, rfl, k l4 H3 hl4 (hb.same s4 hl4) ⟨qs, hla, hqs, hst⟩⟩
end
end Vf

set_option maxRecDepth 100000
set_option maxHeartbeats 8000000
namespace Vf
open PySem PySem.Spec PyProof.Rows L2
end Vf

set_option maxRecDepth 100000
set_option maxHeartbeats 8000000
namespace Vf
open PySem PySem.Spec PyProof.Rows L2
theorem ty_tup {K : PySem.W.Frag} {H : Hp} {a : Addr} {xs : List V} (h : SqT K H a xs) : TyX K H (.ref a) (.type "tuple") := by
  rcases h with (h | ⟨o, h⟩) | ⟨o, its, n, hk, hc, _, _⟩
  · exact .base (.tup h)
  · exact .fTuple h
  · exact .kTuple hk hc
end Vf

set_option maxRecDepth 100000
set_option maxHeartbeats 4000000
namespace Vf
open PySem PySem.Spec PyProof.Rows L2
section
variable {P : Program} {w : World} {A : Around} {E : Value → Shared → Prop} {s : Shared}
theorem set_init_tup {l S : Addr} {items : Array Value} {h0 : Heap} (ns : List Int) (hh : A.handled = none) (h0S : S = s.heap.objs.size) (hl : s.heap.IsTuple l items)
    (hit : IntsAre items.toList ns) (hb : ns.length + 1 < scanBound) (e0 : h0 = s.heap.push (emptySet w)) {R : Result → Shared → Prop}
    (h : ∀ h' tk c, SetR w h' S (fun j => decide (j ∈ ns)) c → c ≤ ns.length → (∀ b o, s.heap.get? b = some o → h'.get? b = some o) →
      R (.ok (.ret .none)) { s with heap := h', toks := tk }) :
    codeAny (model P w) A (.call (.builtin "set.__init__") ⟨[.ref S, .ref l], []⟩) R { s with heap := h0 } := by
  subst h0S e0
  have hS : (s.heap.push (emptySet w)).get? s.heap.objs.size = some (emptySet w) := Heap.get?_push_size _ rfl
  have hT : Shared.TypeIs { s with heap := s.heap.push (emptySet w) } (.ref s.heap.objs.size) "set" := ⟨_, hS, rfl⟩
  refine codeAny_call_builtin F.called_set.init.plain F.entry_set_init (check_set_init_1 hT ?_)
  have hisz : items.size = ns.length := by
    have q := IntsAre.length hit
    rwa [Array.length_toList] at q
  obtain ⟨ol, hol, hcl, nl, hdl⟩ := hl
  obtain ⟨ocls, odict, odata, oslots⟩ := ol
  dsimp only at hcl hdl
  subst hcl hdl
  have hol' : (s.heap.push (emptySet w)).get? l = some { cls := .type "tuple", dict := odict, data := .seq items nl, slots := oslots } :=
    Heap.get?_push_of_some _ hol
  have hsls := F.sub_tuple_set
  have hslf := F.sub_tuple_frozenset
  have hne : (Value.type "tuple" == Value.type "dict") = false := by decide
  have hl1 : (s.heap.push (emptySet w)).IsTuple l items := ⟨_, hol', rfl, nl, rfl⟩
  unfold Builtin.«set.__init__» noKeywords Builtin.Frozenset.updateFrom
  generalize hPI : pyIter = PI
  wp_walk
  subst hPI
  refine wpAny_pyIter_tuple hl1 (wpAny_bind (wpAny_runValue ?_))
  have hlS : l < s.heap.objs.size := Heap.lt_size hol
  have hh3 : A.in1.in1.handled = none := hh
  have hsz : (s.heap.push (emptySet w)).objs.size = s.heap.objs.size + 1 := Heap.size_push ..
  have hlt : ∀ b : Addr, b < s.heap.objs.size → b ∉ [s.heap.objs.size, s.heap.objs.size + 1] := fun b hb hm => by
    rcases List.mem_cons.mp hm with e | e
    · exact Nat.lt_irrefl _ (e ▸ hb)
    · exact Nat.lt_irrefl _ (Nat.lt_succ_of_lt (List.mem_singleton.mp e ▸ hb))
  have hneI : l ≠ (s.heap.push (emptySet w)).objs.size := by rw [hsz]; exact Nat.ne_of_lt (Nat.lt_succ_of_lt hlS)
  have hSf : s.heap.objs.size ∉ [(s.heap.push (emptySet w)).objs.size, l] := by
    rw [hsz]
    simp only [List.mem_cons, List.not_mem_nil, or_false, not_or]
    exact ⟨Nat.ne_of_lt (Nat.lt_succ_self _), Nat.ne_of_gt hlS⟩
  have hcur : (s.heap.push (emptySet w)).IsTuple l items := hl1
  have hval : ∀ (i : Nat) (v : Value), items[i]? = some v → ∃ k t, ns[i]? = some k ∧ v = .int k t := fun i v hv => by
    have hi : i < items.size := (Array.getElem?_eq_some_iff.mp hv).1
    obtain ⟨t, ht⟩ := IntsAre.int_at hit i v (by rw [Array.getElem?_toList]; exact hv)
    have hi2 : i < ns.length := by omega
    refine ⟨ns[i], t, List.getElem?_eq_getElem hi2, ?_⟩
    rw [ht, List.getD_eq_getElem?_getD, List.getElem?_eq_getElem hi2]
    rfl
  refine set_update_ints ((Walks.tuple hh3 _ l hneI items).toS) s.heap.objs.size hSf ns hisz hb hval (items.size - 0) 0 _ (by omega) (Nat.zero_le _)
    ?hSt ?hS0 ?hR
  case hSt => exact ⟨⟨_, Heap.get?_push_size _ rfl, rfl, rfl⟩, (hl1.push _)⟩
  case hS0 => exact ⟨0, Nat.le_refl _, setR_new_at (Heap.get?_push_of_some _ hS)⟩
  case hR =>
    rintro ⟨h', g2, d', tk', os'⟩ c hm hc hR
    obtain rfl : g2 = s.gens := hm.gens
    obtain rfl : d' = s.drawn := hm.drawn
    obtain rfl : os' = s.os := hm.os
    refine wpAny_pure (wpAny_pure (h h' tk' c hR (by omega) fun b o e => ?_))
    refine hm.heap b o ?_ (Heap.get?_push_of_some _ (Heap.get?_push_of_some _ e))
    rw [hsz]
    exact hlt b (Heap.lt_size e)
theorem call_set_tupI {l : Addr} {items : Array Value} (ns : List Int) {Q : Value → Shared → Prop} (hh : A.handled = none) (hl : s.heap.IsTuple l items)
    (hit : IntsAre items.toList ns) (hb : ns.length + 1 < scanBound)
    (h : ∀ h' tk c, SetR w h' s.heap.objs.size (fun j => decide (j ∈ ns)) c → c ≤ ns.length → (∀ b o, s.heap.get? b = some o → h'.get? b = some o) →
      Q (.ref s.heap.objs.size) { s with heap := h', toks := tk }) :
    wpAny (model P w) A (call (.type "set") [.ref l]) Q E s := by
  have hT : Shared.TypeIs { s with heap := s.heap.push (emptySet w) } (.ref s.heap.objs.size) "set" := ⟨_, Heap.get?_push_size _ rfl, rfl⟩
  obtain ⟨c, tl, hmro⟩ := F.called_set.mro; have hmade := F.called_set.made; have hsub := F.called_set.sub
  have h1 := F.called_set.notType; have h2 := F.called_set.canCreate; have hct := F.typeCall_set_1 (.ref l)
  have hli := F.called_set.init.lookup; have hbi := F.called_set.init.bind (.ref s.heap.objs.size)
  refine wpAny_call (codeAny_of_tree (show wpAny _ _ (callAny (.type "set") _) _ _ _ from
    wpAny_pure ⟨Code.quiet_builtin _ (by decide +kernel), codeAny_builtin F.entry_type_call ?_⟩))
  rw [Around.under_plain (weight_type_call_type "set" [.ref l] []) rfl]
  repeat (any_goals (first | assumption | wp_step))
  refine codeAny_mono (code_set_led1 (.ref l) (E := E) (Q₁ := fun obj s₁ => obj = .ref s.heap.objs.size ∧ s₁ = { s with heap := s.heap.push (emptySet w) }) ⟨rfl, rfl⟩) ?_
  rintro (e | (_ | _ | _ | obj)) s₁ hr
  · exact hr
  · exact hr.elim
  · exact hr.elim
  · exact hr.elim
  obtain ⟨rfl, rfl⟩ := hr
  repeat (any_goals (first | assumption | wp_step))
  refine codeAny_mono (set_init_tup (s := s) (R := wants (fun r s₂ => r = .none ∧ Q (.ref s.heap.objs.size) s₂) E) ns (by exact hh) rfl hl hit hb rfl
    fun h' tk c hR hc hk => ⟨rfl, h h' tk c hR hc hk⟩) ?_
  rintro (e | (_ | _ | _ | r)) s₂ hr
  · exact hr
  · exact hr.elim
  · exact hr.elim
  · exact hr.elim
  obtain ⟨rfl, hq⟩ := hr
  repeat (any_goals (first | assumption | wp_step))
end
/-- set(xs): the set of the ints of a tuple, new -/
def rSetIT (K : PySem.W.Frag) (w : World) : List V → Hp → VK → Prop := fun vs H Q => ∃ (a : Addr) (ns : List Int), vs = [.ref a] ∧ SqT K H a (ns.map V.int) ∧ ns.length + 1 < scanBound ∧
  ∀ (p : Addr) (c : Nat), H p = none → (∀ l : List Int, (∀ k ∈ ns, k ∈ l) → c ≤ l.length) → Q (.ref p) (upd H p (SetO w p (fun j => decide (j ∈ ns)) c))
theorem cr_setIT {X : Cx} (hc : X.calm = true) : CallR X (.type "set") (rSetIT X.K X.w) := by
  intro pins s σ H vs us Q I r h
  obtain ⟨a, ns, rfl, hS, hb, q⟩ := h
  obtain ⟨its, rv, pl, hz⟩ := I.tuple hS
  rw [Vals.ref1 r]
  refine call_set_tupI ns (I.ok.hd hc) pl (by simpa using intsAre_of rv) hb fun h' tk c R hcn k => ?_
  refine ⟨.ref _, _, I.laid (t' := tk) k (Nat.le_refl _) (setO_new R), rfl, q _ c (I.hok.fresh (Nat.le_refl _)) fun l hl => ?_⟩
  obtain ⟨o, es, ep, t, _, _, _, _, nd, hm, _, _, hn, _⟩ := R
  rw [← hn, ← Array.length_toList, ← List.length_map (f := keyOf)]
  exact nodup_len nd fun x hx => hl x (of_decide_eq_true ((hm x).mpr hx))
end Vf

set_option maxRecDepth 100000
set_option maxHeartbeats 8000000
namespace Vf
open PySem PySem.Spec PyProof.Rows L2
theorem natV_of (ns : List Nat) : natV ns = (ns.map Int.ofNat).map V.int := by
  rw [List.map_map]
  rfl
end Vf

set_option linter.all false
set_option maxRecDepth 100000
set_option maxHeartbeats 4000000
namespace Vf
open PySem PySem.Spec PyProof.Rows L2 RZ
open PySem.Sem (wp)
/-- what is kept while the zip z, its pair TO and its two iterators turn -/
abbrev KeepZ (z TO i j : Addr) (h h' : Heap) : Prop := ∀ c o, c ≠ z → c ≠ TO → c ≠ i → c ≠ j → h.get? c = some o → h'.get? c = some o
section
variable {prog : Program} {w : World} {A : Around} {E : Value → Shared → Prop} {s : Shared}
theorem zipM_item {z TI TO i j l m : Addr} {k n : Nat} {xs ys : Array Value} {x y a b : Value} {Q : Value → Shared → Prop} (D : ZipApart z TI TO i j l m) (hz : IsZip s.heap z TI TO .none)
    (hTI : IsPair s.heap TI (.ref i) (.ref j)) (hTO : IsPair s.heap TO a b) (hi : s.heap.IsListIter i l k) (hj : s.heap.IsTupleIter j m n) (hl : s.heap.IsList l xs) (hm : s.heap.IsTuple m ys)
    (hx : xs[k]? = some x) (hy : ys[n]? = some y)
    (hQ : ∀ h', IsZip h' z TI TO (rawInt s.heap.objs.size) → IsPair h' TO x y → h'.IsListIter i l (k + 1) → h'.IsTupleIter j m (n + 1) → IsPair h' s.heap.objs.size x y → KeepZ z TO i j s.heap h' → Q (.ref s.heap.objs.size) { s with heap := h' }) :
    wpAny (model prog w) A (Builtin.«zip.__next__» ⟨[.ref z], []⟩) (fun fin s' => ∃ v, fin = .done (.ret v) ∧ Q v s') E s := by
  show wpAny _ _ (field (.ref z) 2 >>= _) _ _ _
  refine wpAny_bind (wpAny_field hz rfl (x := .bool false) rfl ?_)
  show wpAny _ _ (field (.ref z) 3 >>= _) _ _ _
  refine wpAny_bind (wpAny_field hz rfl (x := .ref TI) rfl (wpAny_bind (wpAny_seqItems hTI rfl ?_)))
  show wpAny _ _ (Builtin.SmallTypes.ownedTupleIsFree (.ref z) >>= _) _ _ _
  refine wpAny_bind ?_
  unfold Builtin.SmallTypes.ownedTupleIsFree
  refine wpAny_bind (wpAny_field hz rfl (x := .none) rfl (wpAny_pure ?_))
  simp only [if_true]
  refine wpAny_bind (wpAny_rule (wpAny_bind (wpAny_field hz rfl (x := .ref TO) rfl (wpAny_bind (wpAny_setField_rec hz (by simp) fun g₁ z₁ b₁ => ?_)))))
  replace z₁ : IsZip g₁ z TI TO .ellipsis := z₁
  refine wpAny_bind ?_
  simp only [List.zipIdx_cons, List.zipIdx_nil, List.forIn_cons, List.forIn_nil]
  -- the list's turn
  refine wpAny_bind (wpAny_bind (wpAny_onRaise ?_))
  show wpAny _ _ (Builtin.SmallTypes.nextOf (.ref i) >>= _) _ _ _
  refine wpAny_bind (wpAny_nextOf_list_item (hi.extBut b₁.extBut D.i1z) (hl.extBut b₁.extBut D.l1z) hx fun g₂ i₂ b₂ => wpAny_pure ?_)
  have T₂ : IsPair g₂ TO a b := b₂.extBut _ _ D.TOi1 (b₁.extBut _ _ D.TOz hTO)
  refine wpAny_bind (wpAny_seqItems T₂ rfl (wpAny_bind (wpAny_updateSeq_pair T₂ fun g₃ T₃ b₃ => ?_)))
  replace T₃ : IsPair g₃ TO x b := T₃
  refine wpAny_bind (wpAny_letGo (wpAny_pure ?_))
  -- the tuple's turn
  refine wpAny_bind (wpAny_bind (wpAny_onRaise ?_))
  show wpAny _ _ (Builtin.SmallTypes.nextOf (.ref j) >>= _) _ _ _
  have j₃ : g₃.IsTupleIter j m n := ((hj.extBut b₁.extBut D.i2z).extBut b₂.extBut D.i12.symm).extBut b₃.extBut D.TOi2.symm
  have m₃ : g₃.IsTuple m ys := ((hm.extBut b₁.extBut D.l2z).extBut b₂.extBut D.l2i1).extBut b₃.extBut D.l2TO
  refine wpAny_bind (nextOf_tuple_item j₃ m₃ hy fun g₄ j₄ b₄ => wpAny_pure ?_)
  have T₄ : IsPair g₄ TO x b := b₄.extBut _ _ D.TOi2 T₃
  refine wpAny_bind (wpAny_seqItems T₄ rfl (wpAny_bind (wpAny_updateSeq_pair T₄ fun g₅ T₅ b₅ => ?_)))
  replace T₅ : IsPair g₅ TO x y := T₅
  refine wpAny_bind (wpAny_letGo (wpAny_pure (wpAny_pure ?_)))
  -- the pair is handed out
  refine wpAny_bind (wpAny_seqItems T₅ rfl (wpAny_bind (wpAny_newTuple ?_)))
  have n₅ : g₅.objs.size = s.heap.objs.size := by rw [b₅.1, b₄.1, b₃.1, b₂.1, b₁.1]
  have z₅ : IsZip g₅ z TI TO .ellipsis := b₅.extBut _ _ D.TOz.symm (b₄.extBut _ _ D.i2z.symm (b₃.extBut _ _ D.TOz.symm (b₂.extBut _ _ D.i1z.symm z₁)))
  have k₅ : KeepZ z TO i j s.heap g₅ := fun c o cz cT ci cj e => b₅.extBut _ _ cT (b₄.extBut _ _ cj (b₃.extBut _ _ cT (b₂.extBut _ _ ci (b₁.extBut _ _ cz e))))
  have i₅ : g₅.IsListIter i l (k + 1) := ((i₂.extBut b₃.extBut D.TOi1.symm).extBut b₄.extBut D.i12).extBut b₅.extBut D.TOi1.symm
  have j₅ : g₅.IsTupleIter j m (n + 1) := j₄.extBut b₅.extBut D.TOi2.symm
  have ltz : z < g₅.objs.size := Heap.lt_size z₅
  show wpAny _ _ (Builtin.SmallTypes.ownedTupleHandOut (.ref z) (.ref g₅.objs.size) >>= _) _ _ _
  refine wpAny_bind ?_
  unfold Builtin.SmallTypes.ownedTupleHandOut
  have z₆ : IsZip (g₅.push { cls := .type "tuple", data := .seq #[x, y] }) z TI TO .ellipsis := Heap.get?_push_of_some _ z₅
  refine wpAny_bind (wpAny_setField_rec z₆ (by simp) fun g₇ z₇ b₇ => ?_)
  replace z₇ : IsZip g₇ z TI TO (rawInt g₅.objs.size) := z₇
  refine wpAny_setField_rec z₇ (by simp) fun g₈ z₈ b₈ => ?_
  replace z₈ : IsZip g₈ z TI TO (rawInt g₅.objs.size) := z₈
  have up : ∀ c o, c ≠ z → g₅.get? c = some o → g₈.get? c = some o := fun c o cz e => b₈.extBut _ _ cz (b₇.extBut _ _ cz (Heap.get?_push_of_some _ e))
  have T₈ : IsPair g₈ g₅.objs.size x y := b₈.extBut _ _ (Nat.ne_of_gt ltz) (b₇.extBut _ _ (Nat.ne_of_gt ltz) (Heap.get?_push_size _ rfl))
  rw [n₅] at z₈ T₈
  refine wpAny_pure ⟨_, rfl, ?_⟩
  show Q (.ref g₅.objs.size) _
  rw [n₅]
  exact hQ g₈ z₈ (up _ _ D.TOz T₅) (i₅.at fun o e => up _ o D.i1z e) (j₅.at fun o e => up _ o D.i2z e) T₈ fun c o cz cT ci cj e => up c o cz (k₅ c o cz cT ci cj e)
/-- both end together: the list's end comes first -/
theorem zipM_end {z TI TO i j l m : Addr} {k n : Nat} {xs : Array Value} {a b : Value} {Q : Fin → Shared → Prop} (hh : A.handled = none) (D : ZipApart z TI TO i j l m) (hz : IsZip s.heap z TI TO .none)
    (hTI : IsPair s.heap TI (.ref i) (.ref j)) (hi : s.heap.IsListIter i l k) (hl : s.heap.IsList l xs) (hx : xs[k]? = none)
    (hE : ∀ h' e, KeepZ z TO i j s.heap h' → (∃ o, h'.get? e = some o ∧ o.cls = .type "StopIteration") → E (.ref e) { s with heap := h' }) :
    wpAny (model prog w) A (Builtin.«zip.__next__» ⟨[.ref z], []⟩) Q E s := by
  show wpAny _ _ (field (.ref z) 2 >>= _) _ _ _
  refine wpAny_bind (wpAny_field hz rfl (x := .bool false) rfl ?_)
  show wpAny _ _ (field (.ref z) 3 >>= _) _ _ _
  refine wpAny_bind (wpAny_field hz rfl (x := .ref TI) rfl (wpAny_bind (wpAny_seqItems hTI rfl ?_)))
  show wpAny _ _ (Builtin.SmallTypes.ownedTupleIsFree (.ref z) >>= _) _ _ _
  refine wpAny_bind ?_
  unfold Builtin.SmallTypes.ownedTupleIsFree
  refine wpAny_bind (wpAny_field hz rfl (x := .none) rfl (wpAny_pure ?_))
  simp only [if_true]
  refine wpAny_bind (wpAny_rule (wpAny_bind (wpAny_field hz rfl (x := .ref TO) rfl (wpAny_bind (wpAny_setField_rec hz (by simp) fun g₁ z₁ b₁ => ?_)))))
  replace z₁ : IsZip g₁ z TI TO .ellipsis := z₁
  refine wpAny_bind ?_
  simp only [List.zipIdx_cons, List.zipIdx_nil, List.forIn_cons, List.forIn_nil]
  refine wpAny_bind (wpAny_bind (wpAny_onRaise ?_))
  show wpAny _ _ (Builtin.SmallTypes.nextOf (.ref i) >>= _) _ _ _
  refine wpAny_bind (wpAny_nextOf_list_end hh (hi.extBut b₁.extBut D.i1z) (hl.extBut b₁.extBut D.l1z) hx fun g₂ e b₂ he => ?_)
  obtain ⟨oe, hoe, hce⟩ := he
  have z₂ : IsZip g₂ z TI TO .ellipsis := b₂ _ _ D.i1z.symm z₁
  have nez : e ≠ z := fun q => by
    subst q
    rw [z₂] at hoe
    cases hoe
    simp at hce
  refine wpAny_setField_rec z₂ (by simp) fun g₃ _ b₃ => hE g₃ e (fun c o cz _ ci _ q => b₃.extBut _ _ cz (b₂ _ _ ci (b₁.extBut _ _ cz q))) ⟨oe, b₃.extBut _ _ nez hoe, hce⟩
end
/-- the five objects that zip lays, one by one -/
abbrev zm1 (h : Heap) (l : Addr) : Heap := h.push { cls := .type "list_iterator", data := .fields #[.ref l, .int 0 0] }
abbrev zm2 (h : Heap) (l m : Addr) : Heap := (zm1 h l).push { cls := .type "tuple_iterator", data := .fields #[.ref m, .int 0 0] }
abbrev zm3 (h : Heap) (l m : Addr) : Heap := (zm2 h l m).push { cls := .type "tuple", data := .seq #[.ref h.objs.size, .ref (zm1 h l).objs.size] }
abbrev zm4 (h : Heap) (l m : Addr) : Heap := (zm3 h l m).push { cls := .type "tuple", data := .seq #[.none, .none] }
abbrev zm5 (h : Heap) (l m : Addr) : Heap := (zm4 h l m).push { cls := .type "zip", data := .fields #[.none, .bool false, .bool false, .ref (zm2 h l m).objs.size, .ref (zm3 h l m).objs.size] }
theorem meets_zipM (l m : Addr) (xs ys : Array Value) : Meets (Builtin.«zip.__new__» ⟨[.type "zip", .ref l, .ref m], []⟩) (fun _ R s => s.heap.IsList l xs ∧ s.heap.IsTuple m ys ∧ R (.ok (.ret (.ref (zm4 s.heap l m).objs.size))) { s with heap := zm5 s.heap l m }) :=
  .of_wp fun prog w A R s h => by
    obtain ⟨hp, g, d, tk, os⟩ := s
    obtain ⟨hl, hm, h⟩ := h
    have hsub := sub_zip
    have L1 : Heap.IsList (Shared.heap ⟨hp, g, d, tk, os⟩) l xs := hl
    have L2 : Heap.IsTuple (Shared.heap ⟨hp.push { cls := .type "list_iterator", data := .fields #[.ref l, .int 0 0] }, g, d, tk, os⟩) m ys := Heap.IsTuple.push hm _
    wp_walk using wpAny_pyIter_list L1, wpAny_pyIter_tuple L2
    exact ⟨_, rfl, h⟩
section
variable {prog : Program} {w : World} {A : Around} {E : Value → Shared → Prop} {s : Shared}
theorem call_zipM {l m : Addr} {xs ys : Array Value} {Q : Value → Shared → Prop} (hl : s.heap.IsList l xs) (hm : s.heap.IsTuple m ys)
    (h : ∀ h', IsZip h' (s.heap.objs.size + 4) (s.heap.objs.size + 2) (s.heap.objs.size + 3) .none → IsPair h' (s.heap.objs.size + 2) (.ref s.heap.objs.size) (.ref (s.heap.objs.size + 1)) → IsPair h' (s.heap.objs.size + 3) .none .none →
      h'.IsListIter s.heap.objs.size l 0 → h'.IsTupleIter (s.heap.objs.size + 1) m 0 → (∀ c o, s.heap.get? c = some o → h'.get? c = some o) → Q (.ref (s.heap.objs.size + 4)) { s with heap := h' }) :
    wpAny (model prog w) A (call (.type "zip") [.ref l, .ref m]) Q E s := by
  refine callType_new F.called_zip (by decide) (F.typeCall_zip_2 _ _) (F.newCall_zip_2 _ _) (fun obj => F.args_object_init_3 obj _ _) F.entry_zip_new (meets_zipM l m xs ys) ⟨hl, hm, ?_⟩
  have n1 : (zm1 s.heap l).objs.size = s.heap.objs.size + 1 := Heap.size_push ..
  have n2 : (zm2 s.heap l m).objs.size = s.heap.objs.size + 2 := by rw [Heap.size_push, n1]
  have n3 : (zm3 s.heap l m).objs.size = s.heap.objs.size + 3 := by rw [Heap.size_push, n2]
  have n4 : (zm4 s.heap l m).objs.size = s.heap.objs.size + 4 := by rw [Heap.size_push, n3]
  have more : ∀ {g : Heap} {c : Addr} {o p : Obj}, g.get? c = some o → (g.push p).get? c = some o := fun e => Heap.get?_push_of_some _ e
  have e5 : (zm5 s.heap l m).get? (zm4 s.heap l m).objs.size = some _ := Heap.get?_push_size _ rfl
  have e4 : (zm5 s.heap l m).get? (zm3 s.heap l m).objs.size = some _ := more (Heap.get?_push_size _ rfl)
  have e3 : (zm5 s.heap l m).get? (zm2 s.heap l m).objs.size = some _ := more (more (Heap.get?_push_size _ rfl))
  have e2 : (zm5 s.heap l m).get? (zm1 s.heap l).objs.size = some _ := more (more (more (Heap.get?_push_size _ rfl)))
  have e1 : (zm5 s.heap l m).get? s.heap.objs.size = some _ := more (more (more (more (Heap.get?_push_size _ rfl))))
  show _ ∧ _
  rw [n2, n3, n4] at e5
  rw [n1, n2] at e3
  rw [n3] at e4
  rw [n1] at e2
  rw [n4]
  exact ⟨⟨_, e5, rfl⟩, h _ e5 e3 e4 ⟨_, e1, rfl, rfl⟩ ⟨_, e2, rfl, rfl⟩ fun c o x => more (more (more (more (more x))))⟩
theorem next_zipM {z TI TO i j l m : Addr} {k n : Nat} {xs ys : Array Value} {x y a b : Value} {Q : Option Value → Shared → Prop} (D : ZipApart z TI TO i j l m) (hz : IsZip s.heap z TI TO .none)
    (hTI : IsPair s.heap TI (.ref i) (.ref j)) (hTO : IsPair s.heap TO a b) (hi : s.heap.IsListIter i l k) (hj : s.heap.IsTupleIter j m n) (hl : s.heap.IsList l xs) (hm : s.heap.IsTuple m ys)
    (hx : xs[k]? = some x) (hy : ys[n]? = some y)
    (hQ : ∀ h', IsZip h' z TI TO (rawInt s.heap.objs.size) → IsPair h' TO x y → h'.IsListIter i l (k + 1) → h'.IsTupleIter j m (n + 1) → IsPair h' s.heap.objs.size x y → KeepZ z TO i j s.heap h' → Q (some (.ref s.heap.objs.size)) { s with heap := h' }) :
    wpAny (model prog w) A (pyNext (.ref z)) Q E s := by
  have ty : s.TypeIs (.ref z) "zip" := ⟨_, hz, rfl⟩
  unfold pyNext
  exact wpAny_bind (wpAny_attempt (wpAny_callSpecial?_slot (name := Str.ofString "__next__") ty F.slot_zip_next (wpAny_call_entry F.slot_zip_next ty F.entry_zip_next
    (zipM_item D hz hTI hTO hi hj hl hm hx hy fun h' b1 b2 b3 b4 b5 b6 => wpAny_pure (hQ h' b1 b2 b3 b4 b5 b6)) (F.args_zip_next_1 _))))
theorem stop_zipM {z TI TO i j l m : Addr} {k n : Nat} {xs : Array Value} {a b : Value} {Q : Option Value → Shared → Prop} (hh : A.handled = none) (D : ZipApart z TI TO i j l m) (hz : IsZip s.heap z TI TO .none)
    (hTI : IsPair s.heap TI (.ref i) (.ref j)) (hi : s.heap.IsListIter i l k) (hl : s.heap.IsList l xs) (hx : xs[k]? = none) (hQ : ∀ h', KeepZ z TO i j s.heap h' → Q none { s with heap := h' }) :
    wpAny (model prog w) A (pyNext (.ref z)) Q E s := by
  have ty : s.TypeIs (.ref z) "zip" := ⟨_, hz, rfl⟩
  unfold pyNext
  refine wpAny_bind (wpAny_attempt (wpAny_callSpecial?_slot (name := Str.ofString "__next__") ty F.slot_zip_next (wpAny_call_entry F.slot_zip_next ty F.entry_zip_next (zipM_end (n := n) (a := a) (b := b) hh D hz hTI hi hl hx fun h' e hk he => ?_) (F.args_zip_next_1 _))))
  obtain ⟨o, ho, hc⟩ := he
  exact wpAny_bind (wpAny_isInstance (T := "StopIteration") (b := true) ⟨o, ho, hc⟩ isSubtype_stop (wpAny_pure (hQ _ hk)))
end
/-- the list at a and the tuple at b as they stand at each turn, of one length -/
def ItM (K : PySem.W.Frag) (a b : Addr) : It :=
  ⟨fun i H => ∃ (xs ys : List V) (x y : V), SqL K H a xs ∧ SqT K H b ys ∧ xs[i]? = some x ∧ ys[i]? = some y,
    fun i H v H' => ∃ T x y, v = .ref T ∧ H T = none ∧ H' = upd H T (.tup [x, y]) ∧ (∀ xs, SqL K H a xs → xs[i]? = some x) ∧ ∀ ys, SqT K H b ys → ys[i]? = some y,
    fun i H => ∃ xs : List V, SqL K H a xs ∧ xs.length ≤ i⟩
theorem turn_zipM {P : Program} {w : World} {K : PySem.W.Frag} {elts : List Expr} {kk : Nat} {tpos : Pos} {a b z TI TO i1 i2 : Addr} (D : ZipApart z TI TO i1 i2 a b) :
    Turn P w K (.Tuple elts kk tpos) (ItM K a b) [z, TI, TO, i1, i2] z (fun i h => IsZip h z TI TO .none ∧ IsPair h TI (.ref i1) (.ref i2) ∧ (∃ x y, IsPair h TO x y) ∧ h.IsListIter i1 a i ∧ h.IsTupleIter i2 b i) where
  mem := by simp
  obj := fun i h st c hc => by
    obtain ⟨hz, hTI, ⟨x, y, hTO⟩, ⟨o1, e1, _, d1⟩, ⟨o2, e2, _, d2⟩⟩ := st
    have e : c = z ∨ c = TI ∨ c = TO ∨ c = i1 ∨ c = i2 := by simpa using hc
    rcases e with rfl | rfl | rfl | rfl | rfl
    · exact ⟨_, hz, fun v q => nomatch q⟩
    · exact ⟨_, hTI, fun v q => nomatch q⟩
    · exact ⟨_, hTO, fun v q => nomatch q⟩
    · exact ⟨o1, e1, fun v q => by rw [d1] at q; cases q⟩
    · exact ⟨o2, e2, fun v q => by rw [d2] at q; cases q⟩
  keep := fun i h h' st k => by
    obtain ⟨hz, hTI, ⟨x, y, hTO⟩, h1, h2⟩ := st
    exact ⟨k z (by simp) _ hz, k TI (by simp) _ hTI, ⟨x, y, k TO (by simp) _ hTO⟩, h1.at fun o q => k i1 (by simp) o q, h2.at fun o q => k i2 (by simp) o q⟩
  item := by
    intro X hP hw hK hc i pins s σ H E I hf st hg
    subst hP hw hK
    obtain ⟨hz, hTI, ⟨x0, y0, hTO⟩, h1, h2⟩ := st
    obtain ⟨xs, ys, x, y, hqx, hqy, hx, hy⟩ := hg
    obtain ⟨its, rv, p, _⟩ := I.list hqx
    obtain ⟨its2, rv2, p2, _⟩ := I.tuple hqy
    obtain ⟨u, hu, ru⟩ := rv.get hx
    obtain ⟨u2, hu2, ru2⟩ := rv2.get hy
    have zlt : z < s.heap.objs.size := Heap.lt_size hz
    refine next_zipM D hz hTI hTO h1 h2 p.isList p2 (x := u) (y := u2) (by simpa using hu) (by simpa using hu2) fun h' z' TO' h1' h2' hT hk => ⟨_, rfl, wpAny_letOwnedTupleGo_zip (s := { s with heap := h' }) z' fun h'' z'' sb => ?_⟩
    have hT2 : h''.get? s.heap.objs.size = some { cls := .type "tuple", data := .seq #[u, u2] } := (sb.2 _ (Nat.ne_of_gt zlt)).trans hT
    have new : ObjOk X.prog X.w (upd H s.heap.objs.size (.tup [x, y])) h'' s.heap.objs.size (.tup [x, y]) := ⟨by show 2 ≤ sizeLine; decide, [u, u2], .cons ru (.cons ru2 .nil), ⟨_, hT2, rfl, _, rfl⟩⟩
    have fr : ∀ c o, c ∉ [z, TI, TO, i1, i2] → s.heap.get? c = some o → h''.get? c = some o := fun c o hb q =>
      (sb.2 c (fun e => hb (by simp [e]))).trans (hk c o (fun e => hb (by simp [e])) (fun e => hb (by simp [e])) (fun e => hb (by simp [e])) (fun e => hb (by simp [e])) q)
    have I1 : Inv X pins σ (upd H s.heap.objs.size (.tup [x, y])) { s with heap := h'' } := I.turnedNew (t' := s.toks) (ch := [z, TI, TO, i1, i2]) fr hf (Nat.le_refl _) new
    refine ⟨.ref s.heap.objs.size, _, I1, rfl, ⟨_, x, y, rfl, I.hok.fresh (Nat.le_refl _), rfl, fun l hl => by rw [I.list_inj hl hqx]; exact hx, fun l hl => by rw [I.tuple_inj hl hqy]; exact hy⟩, ⟨z'', (sb.2 _ D.TIz).trans (hk _ _ D.TIz D.TITO D.TIi1 D.TIi2 hTI), ⟨u, u2, (sb.2 _ D.TOz).trans TO'⟩, h1'.at fun o q => (sb.2 _ D.i1z).trans q, h2'.at fun o q => (sb.2 _ D.i2z).trans q⟩, fun c hcm => ?_⟩
    have hlt : c < s.heap.objs.size := by
      have e : c = z ∨ c = TI ∨ c = TO ∨ c = i1 ∨ c = i2 := by simpa using hcm
      rcases e with q | q | q | q | q <;> rw [q]
      · exact zlt
      · exact Heap.lt_size hTI
      · exact Heap.lt_size hTO
      · obtain ⟨_, e1, _⟩ := h1
        exact Heap.lt_size e1
      · obtain ⟨_, e2, _⟩ := h2
        exact Heap.lt_size e2
    rw [upd_ne (Nat.ne_of_lt hlt)]
    exact (hf c hcm).1
  done := by
    intro X hP hw hK hc i pins s σ H E I hf st hg
    subst hP hw hK
    obtain ⟨hz, hTI, ⟨x0, y0, hTO⟩, h1, h2⟩ := st
    obtain ⟨xs, hqx, hend⟩ := hg
    obtain ⟨its, rv, p, _⟩ := I.list hqx
    have l1 := rv.length
    refine stop_zipM (n := i) (a := x0) (b := y0) (I.ok.hd hc) D hz hTI h1 p.isList (by simp; omega) fun h' hk => ⟨rfl, I.turnedL (t' := s.toks) (ch := [z, TI, TO, i1, i2]) (fun c o hb q => hk c o (fun e => hb (by simp [e])) (fun e => hb (by simp [e])) (fun e => hb (by simp [e])) (fun e => hb (by simp [e])) q) hf⟩
  self := fun A i s Q E st h => wpAny_pyIter_zip st.1 h
/-- zip(a list, a tuple) -/
def iZipM (K : PySem.W.Frag) (ta : TA) : TI := fun σ H R => ta σ H fun vs H1 => ∃ a b xs ys, vs = [.ref a, .ref b] ∧ SqL K H1 a xs ∧ SqT K H1 b ys ∧ R (ItM K a b) H1
theorem pi_zipM {X : Cx} {e e2 : Expr} {ta : TA} {p pos tpos : Pos} {elts : List Expr} {kk : Nat} (hg : Gl X "zip") (hm : X.mg "zip" = none) (ha : PA X [e, e2] ta)
    (hs : starEach [e, e2] X.env = (false, eval e X.env) :: starEach [e2] X.env := by rfl) (hpl : (backTo pos (starEach [e2] X.env)).any (·.1) = false := by rfl) :
    PI X (.Tuple elts kk tpos) (.Call (.Name "zip" p) [e, e2] [] pos) (iZipM X.K ta) := by
  refine ⟨fun pins s σ H R I h => Call_ (ld_blt I hg hm PyProof.Rows.boot_zip (PyProof.Rows.callWith_type1 (thn (ha.run pos pins s σ H _ I h) fun us s1 ⟨vs, H1, I1, r1, a, b, xs, ys, ex, hqx, hqy, q⟩ => ?_) hs hpl))⟩
  subst ex
  obtain ⟨u1, u2, rfl, r, r'⟩ := r1.two
  cases r
  cases r'
  obtain ⟨its, rv, p1, _⟩ := I1.list hqx
  obtain ⟨its2, rv2, p2, _⟩ := I1.tuple hqy
  obtain ⟨o2, ho2, _⟩ := id p2
  refine call_zipM p1.isList (show s1.heap.IsTuple b its2.toArray from p2) fun h' hz hTI hTO h1 h2 hk => wpAny_pyIter_zip hz ?_
  have I2 : Inv X pins σ H1 { s1 with heap := h' } := I1.kept (t' := s1.toks) hk
  refine ⟨s1.heap.objs.size + 4, [s1.heap.objs.size + 4, s1.heap.objs.size + 2, s1.heap.objs.size + 3, s1.heap.objs.size, s1.heap.objs.size + 1], _, _, H1, rfl, I2, turn_zipM (PySem.W.ktu_apart s1.heap.objs.size a b p1.lt (Heap.lt_size ho2)), ⟨hz, hTI, ⟨_, _, hTO⟩, h1, h2⟩, fun c hcm => ?_, q⟩
  have hle : s1.heap.objs.size ≤ c := by
    have e : c = s1.heap.objs.size + 4 ∨ c = s1.heap.objs.size + 2 ∨ c = s1.heap.objs.size + 3 ∨ c = s1.heap.objs.size ∨ c = s1.heap.objs.size + 1 := by simpa using hcm
    rcases e with e | e | e | e | e <;> rw [e] <;> first | exact Nat.le_refl _ | exact Nat.le_add_right _ _
  exact I1.fpOk hle (I1.hok.fresh hle)
/-- its turns -/
theorem walk_zipM {K : PySem.W.Frag} {a b : Addr} {xs ys : List V} (hl : xs.length = ys.length) : Walk (ItM K a b) xs.length (fun H => SqL K H a xs ∧ SqT K H b ys) (fun i H v H' => ∃ T x y, v = .ref T ∧ H T = none ∧ H' = upd H T (.tup [x, y]) ∧ xs[i]? = some x ∧ ys[i]? = some y) where
  goes := fun i H hi h => ⟨xs, ys, xs[i], ys[i]'(by omega), h.1, h.2, List.getElem?_eq_getElem hi, List.getElem?_eq_getElem (by omega)⟩
  yields := fun i H v H' hi h ⟨T, x, y, e1, e2, e3, e4, e5⟩ => ⟨T, x, y, e1, e2, e3, e4 xs h.1, e5 ys h.2⟩
  stops := fun H h => ⟨xs, h.1, Nat.le_refl _⟩
end Vf

set_option maxRecDepth 100000
set_option maxHeartbeats 4000000
namespace Vf
open PySem PySem.Spec PyProof.Rows L2
def rLenK (K : PySem.W.Frag) : List V → Hp → VK → Prop := fun xs H Q => ∃ p ys, xs = [.ref p] ∧ (SqL K H p ys ∨ SqT K H p ys) ∧ Q (.int ys.length) H
theorem cr_len {X : Cx} {K : PySem.W.Frag} (hK : X.K = K) : CallR X (.builtin "len") (rLenK K) := by
  subst hK
  exact call_len_seq
def rLst (K : PySem.W.Frag) : List V → Hp → VK → Prop := fun xs H Q => ∃ p ys, xs = [.ref p] ∧ (SqL K H p ys ∨ SqT K H p ys) ∧ ∀ l, H l = none → Q (.ref l) (upd H l (.lst ys))
theorem cr_lst {X : Cx} {K : PySem.W.Frag} (hK : X.K = K) : CallR X (.type "list") (rLst K) := by
  subst hK
  exact call_list_of
end Vf

set_option maxRecDepth 100000
set_option maxHeartbeats 8000000
namespace Vf
open PySem PySem.Spec PyProof.Rows L2
/-- a state of threads and lines -/
structure OkSt (es : List (List Nd)) (ls : List (List Str)) (pl : List (Option Nat)) (held : List Ln) : Prop where
  pls : pl.length = es.length
  pin : ∀ th i : Nat, pl[th]? = some (some i) → i < (es.getD th []).length
  hls : held.length = ls.length
  own : ∀ l ∈ held, (∀ t ∈ l.1, t < es.length) ∧ rises l.1 = true ∧ (l.2 = true → l.1.length = 1)
theorem rises_max {many : Nat} {ks : List Nat} (h : rises ks = true) (hk : ∀ k ∈ ks, k < many) : ks.length ≤ many := by
  have nd : ks.Nodup := ((rises_iff ks).mp h).imp fun q => Nat.ne_of_lt q
  have := nodup_len (m := List.range many) nd fun k h => List.mem_range.mpr (hk k h)
  rwa [List.length_range] at this
end Vf

set_option maxRecDepth 100000
set_option maxHeartbeats 8000000
namespace Vf
open PySem PySem.Spec PyProof.Rows L2
theorem PndAt.same {K : PySem.W.Frag} {H H' : Hp} {a : Addr} {ls : List (List Str)} {n : Nd} (h : PndAt K H a ls n) (s : Same H H') : PndAt K H' a ls n := by
  obtain ⟨t, j, h1, h2, h3⟩ := h
  exact ⟨t, j, h1, Vf.SqT.same h2 s, Vf.SqT.same h3 s⟩
theorem PlcAt.same {K : PySem.W.Frag} {H H' : Hp} {l : Addr} {ls : List (List Str)} {es : List (List Nd)} (h : PlcAt K H l ls es) (s : Same H H') : PlcAt K H' l ls es := by
  obtain ⟨qs, h1, h2, h3⟩ := h
  refine ⟨qs, sqL_kept h1 s, h2, fun q hq => ?_⟩
  obtain ⟨rs, g1, g2, g3⟩ := h3 q hq
  exact ⟨rs, sqL_kept g1 s, g2, fun r hr => (g3 r hr).same s⟩
end Vf

set_option maxRecDepth 100000
set_option maxHeartbeats 4000000
namespace Vf
open PySem PySem.Spec PyProof.Rows L2
abbrev NK := PySem.NestedKey
abbrev nk (P : Program) (w : World) : HeapKind P w NK := PySem.nestedKind P w
/-- the dict at a, by its entries -/
def NDo (P : Program) (w : World) (a : Addr) (xs : List (NK × Addr × Value)) : HO :=
  .ext fun h => ∃ o es ep, h.get? a = some o ∧ o.ExactDict ∧ o.data = .dict es ep ∧ es.toList = xs.map (entryOfKey (nk P w)) ∧ (xs.map (·.1)).Nodup
theorem ndo_ok {P : Program} {w : World} {H : Hp} {h : Heap} {a : Addr} {xs : List (NK × Addr × Value)} (e : h.DictOfH (nk P w) a xs) : ObjOk P w H h a (NDo P w a xs) := by
  obtain ⟨o, es, ep, h1, h2, h3, h4, _, h5⟩ := e
  refine ⟨⟨o, es, ep, h1, h2, h3, h4, h5⟩, ⟨o, h1⟩, fun k1 k2 ⟨o', es', ep', g1, g2, g3, g4, g5⟩ st => ⟨o', es', ep', st _ g1, g2, g3, g4, g5⟩⟩
/-- such a key in the heap -/
inductive KeyV (H : Hp) : V → NK → Prop
  | non : KeyV H .non .none
  | int (i : Int) : KeyV H (.int i) (.num i)
  | bl (b : Bool) : KeyV H (.bl b) (.num (if b = true then 1 else 0))
  | str (x : Str) : KeyV H (.str x) (.text x)
  | tup {a : Addr} {xs : List V} {ks : List NK} : H a = some (.tup xs) → xs.length = ks.length → (∀ (i : Nat) (x : V) (k : NK), xs[i]? = some x → ks[i]? = some k → KeyV H x k) → KeyV H (.ref a) (.tup ks)
theorem KeyV.same {H H' : Hp} (s : ∀ c ys, H c = some (.tup ys) → H' c = some (.tup ys)) {v : V} {k : NK} (h : KeyV H v k) : KeyV H' v k := by
  induction h with
  | non => exact .non
  | int i => exact .int i
  | bl b => exact .bl b
  | str x => exact .str x
  | tup e l _ ih => exact .tup (s _ _ e) l ih
/-- a tuple's, not too deep -/
structure NestH (H : Hp) (b : Addr) (k : NK) : Prop where
  key : KeyV H (.ref b) k
  low : k.depth ≤ 8
theorem NestH.same {H H' : Hp} {b : Addr} {k : NK} (h : NestH H b k) (s : ∀ c ys, H c = some (.tup ys) → H' c = some (.tup ys)) : NestH H' b k := ⟨h.key.same s, h.low⟩
theorem nested_all {h : Heap} : ∀ {xs : List V} {its : List Value} {ks : List NK}, Vals xs its → xs.length = ks.length → (∀ (i : Nat) (x : V) (k : NK), xs[i]? = some x → ks[i]? = some k → ∀ u, RelV x u → NestedIs h k u) → NestedAll h ks its
  | [], _, [], r, _, _ => by
    cases r
    exact .nil
  | [], _, _ :: _, _, l, _ => by simp at l
  | _ :: _, _, [], _, l, _ => by simp at l
  | x :: xs, _, k :: ks, r, l, f => by
    cases r with
    | cons r1 r2 => exact .cons (f 0 x k rfl rfl _ r1) (nested_all r2 (by simpa using l) fun i y m h1 h2 => f (i + 1) y m (by simpa using h1) (by simpa using h2))
theorem KeyV.is {P : Program} {w : World} {H : Hp} {h : Heap} (ok : HOk P w H h) {v : V} {k : NK} (x : KeyV H v k) : ∀ u, RelV v u → NestedIs h k u := by
  induction x with
  | non =>
    intro u r
    cases r
    exact .none
  | int i =>
    intro u r
    obtain ⟨t, rfl⟩ := r
    exact .int i t
  | bl b =>
    intro u r
    cases r
    exact .bool rfl
  | str x =>
    intro u r
    obtain ⟨t, rfl⟩ := r
    exact .text x t
  | @tup a xs ks e l _ ih =>
    intro u r
    cases r
    obtain ⟨_, its, rv, o, e1, e2, n, e3⟩ := (show ObjOk P w H h a (.tup xs) from ok a _ e)
    exact .tup e1 e2 e3 (nested_all rv l ih)
theorem NestH.is {P : Program} {w : World} {H : Hp} {h : Heap} {b : Addr} {k : NK} (ok : HOk P w H h) (x : NestH H b k) : (nk P w).is h k b := ⟨x.key.is ok _ rfl, x.low⟩
abbrev KN (H : Hp) : List (NK × V) → List (NK × Addr × Value) → Prop := Paired fun p q => p.1 = q.1 ∧ NestH H q.2.1 p.1 ∧ RelV p.2 q.2.2
theorem KN.val {H : Hp} {kvs : List (NK × V)} {xs : List (NK × Addr × Value)} (r : KN H kvs xs) (k : NK) : RelO (valV kvs k) ((atKey xs k).map (·.2)) := by
  induction r with
  | nil => exact True.intro
  | @cons p q ps qs h t ih =>
    obtain ⟨h1, _, h2⟩ := h
    by_cases e : p.1 = k
    · have b : atKey (q :: qs) k = some q.2 := by simp [atKey, List.find?_cons, h1.symm.trans e]
      rw [valV_pos e, b]
      exact h2
    · have b : atKey (q :: qs) k = atKey qs k := by
        have e' : ¬ q.1 = k := fun z => e (h1.trans z)
        simp [atKey, List.find?_cons, e']
      rw [valV_neg e, b]
      exact ih
theorem KN.put {H : Hp} {kvs : List (NK × V)} {xs : List (NK × Addr × Value)} (r : KN H kvs xs) (k : NK) {b : Addr} {y : V} {u : Value} (hb : NestH H b k) (ry : RelV y u) : KN H (putK kvs k y) (storedH xs k b u) := by
  have e : (kvs.any fun kv => decide (kv.1 = k)) = (atKey xs k).isSome := by rw [valV_any, (KN.val r k).isSome_eq, Option.isSome_map]
  unfold putK storedH
  rw [e]
  by_cases q : (atKey xs k).isSome = true
  · rw [if_pos q, if_pos q]
    clear e q
    induction r with
    | nil => exact .nil
    | @cons p q ps qs h t ih =>
      rw [List.map_cons, List.map_cons]
      obtain ⟨h1, h2, h3⟩ := h
      refine .cons ?_ ih
      unfold putAt
      by_cases e : p.1 = k
      · rw [if_pos e, if_pos (h1.symm.trans e)]
        exact ⟨h1, h2, ry⟩
      · rw [if_neg e, if_neg (fun z => e (h1.trans z))]
        exact ⟨h1, h2, h3⟩
  · rw [if_neg q, if_neg q]
    exact Paired.snoc r ⟨rfl, hb, ry⟩
theorem KN.keeps {H H' : Hp} {kvs : List (NK × V)} {xs : List (NK × Addr × Value)} (r : KN H kvs xs) (s : ∀ c ys, H c = some (.tup ys) → H' c = some (.tup ys)) : KN H' kvs xs := Paired.mapP r fun _ _ z => ⟨z.1, z.2.1.same s, z.2.2⟩
/-- the dict at a holds kvs -/
structure ND (P : Program) (w : World) (H : Hp) (a : Addr) (kvs : List (NK × V)) : Prop where
  fits : kvs.length ≤ sizeLine
  nosys : (a == sysModules) = false
  ex : ∃ xs, H a = some (NDo P w a xs) ∧ KN H kvs xs
theorem ndo_ne {P : Program} {w : World} {a : Addr} {xs : List (NK × Addr × Value)} {ys : List V} : NDo P w a xs ≠ .tup ys := fun z => by
  unfold NDo at z
  cases z
theorem ND.same {P : Program} {w : World} {H H' : Hp} {a : Addr} {kvs : List (NK × V)} (d : ND P w H a kvs) (s : Same H H') : ND P w H' a kvs := by
  obtain ⟨h1, h2, xs, h3, h4⟩ := d
  exact ⟨h1, h2, xs, s _ _ h3, h4.keeps fun c ys e => s _ _ e⟩
theorem KN.is {P : Program} {w : World} {H : Hp} {h : Heap} (ok : HOk P w H h) : ∀ {kvs : List (NK × V)} {xs : List (NK × Addr × Value)}, KN H kvs xs → ∀ x ∈ xs, (nk P w).is h x.1 x.2.1
  | _, _, .nil => fun x hx => nomatch hx
  | _, _, .cons hq t => fun x hx => by
    rcases List.mem_cons.mp hx with rfl | hx
    · exact NestH.is ok (hq.1 ▸ hq.2.1)
    · exact KN.is ok t x hx
theorem ND.of {P : Program} {w : World} {H : Hp} {h : Heap} {a : Addr} {kvs : List (NK × V)} (ok : HOk P w H h) (d : ND P w H a kvs) : ∃ xs, KN H kvs xs ∧ h.DictOfH (nk P w) a xs ∧ H a = some (NDo P w a xs) := by
  obtain ⟨_, _, xs, h3, h4⟩ := d
  obtain ⟨⟨o, es, ep, g1, g2, g3, g4, g5⟩, _, _⟩ := (show ObjOk P w H h a (NDo P w a xs) from ok a _ h3)
  exact ⟨xs, h4, ⟨o, es, ep, g1, g2, g3, g4, KN.is ok h4, g5⟩, h3⟩
section
variable {X : Cx}
/-- {} -/
def tDNewN (P : Program) (w : World) : TE := fun _ H Q => ∀ p, H p = none → ND P w (upd H p (NDo P w p [])) p [] → Q (.ref p) (upd H p (NDo P w p []))
theorem pe_dnewN {pos : Pos} : PE X (.Dict [] [] pos) (tDNewN X.prog X.w) := ⟨fun pins s σ H Q I h => by
  have hn := I.hok.fresh (Nat.le_refl s.heap.objs.size)
  have nos : (s.heap.objs.size == sysModules) = false := beq_eq_false_iff_ne.mpr (Ne.symm (Nat.ne_of_lt I.big))
  have d : (s.heap.push { cls := .type "dict", data := .dict #[] }).DictOfH (nk X.prog X.w) s.heap.objs.size [] := ⟨_, #[], 0, Heap.get?_push_size _ rfl, ⟨rfl, rfl, rfl⟩, rfl, rfl, fun x hx => (nomatch hx), List.nodup_nil⟩
  exact wpAny_Dict_empty ⟨.ref s.heap.objs.size, _, I.laid (a := s.heap.objs.size) (o := NDo X.prog X.w s.heap.objs.size []) (t' := s.toks) (fun _ _ q => Heap.get?_push_of_some _ q) (Nat.le_refl _) (ndo_ok d), rfl, h _ hn ⟨Nat.zero_le _, nos, [], upd_same, .nil⟩⟩⟩
/-- k in d, k not in d -/
def rInN (P : Program) (w : World) (neg : Bool) : R2 := fun x y H Q => ∃ a b kvs k, x = .ref b ∧ y = .ref a ∧ ND P w H a kvs ∧ NestH H b k ∧ Q (.bl (if neg then !(valV kvs k).isSome else (valV kvs k).isSome)) H
theorem op_inN (hu : X.A.units + 16 < cLine) : OpR X (compareOp .In) (rInN X.prog X.w false) := by
  intro pins s σ H x y v u Q I rx ry h
  obtain ⟨a, b, kvs, k, rfl, rfl, d, hk, q⟩ := h
  cases rx
  cases ry
  obtain ⟨xs, rel, dd, _⟩ := d.of I.hok
  refine wpAny_in_heap (knd := nk X.prog X.w) (by show X.A.units + 1 + 8 < cLine; omega) (hk.is I.hok) d.nosys dd ?_
  have e := (KN.val rel k).isSome_eq
  rw [Option.isSome_map] at e
  rw [← e]
  exact ⟨.bl _, H, I.tok _, rfl, q⟩
theorem op_notInN (hu : X.A.units + 16 < cLine) : OpR X (compareOp .NotIn) (rInN X.prog X.w true) := by
  intro pins s σ H x y v u Q I rx ry h
  obtain ⟨a, b, kvs, k, rfl, rfl, d, hk, q⟩ := h
  cases rx
  cases ry
  obtain ⟨xs, rel, dd, _⟩ := d.of I.hok
  refine wpAny_notIn_heap (knd := nk X.prog X.w) (by show X.A.units + 1 + 8 < cLine; omega) (hk.is I.hok) d.nosys dd ?_
  have e := (KN.val rel k).isSome_eq
  rw [Option.isSome_map] at e
  rw [← e]
  exact ⟨.bl _, H, I.tok _, rfl, q⟩
/-- d[k] -/
def rIxN (P : Program) (w : World) : R2 := fun x y H Q => ∃ a b kvs k v, x = .ref a ∧ y = .ref b ∧ ND P w H a kvs ∧ NestH H b k ∧ valV kvs k = some v ∧ Q v H
theorem pe_dgetN {o i : Expr} {pos : Pos} {td ty : TE} (hu : X.A.units + 16 < cLine) (ho : PE X o td) (hi : PE X i ty) (hs : NoSl i) : PE X (.Subscript o i pos) (tOp (rIxN X.prog X.w) td ty) := by
  refine ⟨fun pins s σ H Q I h => ?_⟩
  refine subD_of PySem.F.slot_dict_getitem.lookup hs (thn (ho.run pins s σ H _ I h) fun u s1 ⟨x, H1, I1, rx, q1⟩ => thn (hi.run pins s1 σ H1 _ I1 q1) fun iv s2 ⟨y, H2, I2, ry, a, b, kvs, k, z, ex, ey, d, hk, l, q2⟩ => ?_)
  subst ex ey
  obtain rfl : u = Value.ref a := rx
  obtain rfl : iv = Value.ref b := ry
  obtain ⟨xs, rel, dd, _⟩ := d.of I2.hok
  obtain ⟨w', hw, rw'⟩ := RelO.some_of (v := z) (o := (atKey xs k).map (·.2)) (by rw [← l]; exact KN.val rel k)
  obtain ⟨p, hp, hp2⟩ := Option.map_eq_some_iff.mp hw
  refine ⟨dd.typeIs, wpAny_getItem_heap (knd := nk X.prog X.w) (by show X.A.units + 1 + 8 < cLine; omega) (hk.is I2.hok) dd hp ?_⟩
  rw [hp2]
  exact ⟨z, H2, I2.tok _, rw', q2⟩
/-- d[k] = v -/
def rSetN (P : Program) (w : World) : V → V → V → Hp → (Hp → Prop) → Prop := fun o i v H Q => ∃ a b kvs k, o = .ref a ∧ i = .ref b ∧ ND P w H a kvs ∧ NestH H b k ∧ kvs.length < sizeLine ∧
  ∀ u, ND P w (upd H a u) a (putK kvs k v) → Q (upd H a u)
theorem set_nest (hu : X.A.units + 16 < cLine) : PSet X (rSetN X.prog X.w) := by
  intro pins s σ H o i v ov iv u Q I ro ri rv h
  obtain ⟨a, b, kvs, k, rfl, rfl, d, hk, lt, q⟩ := h
  cases ro
  cases ri
  obtain ⟨xs, rel, dd, ea⟩ := d.of I.hok
  have hz : xs.length ≤ sizeLine := by
    rw [← Paired.length rel]
    exact d.fits
  have hl : (putK kvs k v).length ≤ sizeLine := by
    have := length_putK kvs k v
    omega
  refine wpAny_setItem_heap (knd := nk X.prog X.w) (hsz := hz) (by show X.A.units + 1 + 8 < cLine; omega) (hk.is I.hok) dd fun h' dd' hs => ?_
  have st : ∀ c ys, H c = some (.tup ys) → (upd H a (NDo X.prog X.w a (storedH xs k b u))) c = some (.tup ys) := fun c ys e => by
    rw [upd_ne (ne_of e ea (fun z => ndo_ne z.symm))]
    exact e
  have he : ∃ q, h'.get? a = some q := let ⟨q, _, _, hq, _⟩ := dd'; ⟨q, hq⟩
  exact ⟨_, d_write I (by rw [ea]; exact True.intro) hs he (ndo_ok dd'), q _ ⟨hl, d.nosys, _, upd_same, (KN.put rel k hk rv).keeps st⟩⟩
end
end Vf

set_option maxRecDepth 100000
set_option maxHeartbeats 4000000
namespace Vf
open PySem PySem.Spec PyProof.Rows L2
/-- list(e.values()) -/
def tListVals (te : TE) : TE := fun σ H Q => te σ H fun x H1 => ∃ (d : Addr) (kvs : List (Key × V)), x = .ref d ∧ H1 d = some (.dK kvs) ∧ ∀ p, H1 p = none → Q (.ref p) (upd H1 p (.lst (kvs.map Prod.snd)))
section
variable {X : Cx} {e : Expr} {te : TE} {p apos cpos pos : Pos}
theorem pe_listVals (hc : X.calm = true) (he : PE X e te) (hg : Gl X "list") (hm : X.mg "list" = none) (hv : bootBuiltins "list" = some (.type "list")) (hbase : attributeBase e "values" X.env (eval e X.env) = eval e X.env := by rfl) (hline : (apos.endLine == cpos.line) = true := by rfl)
    (hs : starEach [.Call (.Attribute e "values" apos) [] [] cpos] X.env = (false, eval (.Call (.Attribute e "values" apos) [] [] cpos) X.env) :: starEach [] X.env := by rfl) :
    PE X (.Call (.Name "list" p) [.Call (.Attribute e "values" apos) [] [] cpos] [] pos) (tListVals te) := by
  refine ⟨fun pins s σ H Q I hq => wpAny_Call_Name_kw (ld_blt I hg hm hv (PyProof.Rows.callWith_type1 ?_ hs rfl))⟩
  rw [hs]
  show wpAny _ _ (spliced ((false, eval (.Call (.Attribute e "values" apos) [] [] cpos) X.env) :: backTo pos (starEach [] X.env))) _ _ s
  refine Calls.spliced_cons (wpAny_Call_method (T := "dict") (id := "dict.values") hbase rfl hline F.plainAttrs_dict F.slot_dict_values F.type_dict_values (thn (he.run pins s σ H _ I hq) fun u s1 ⟨x, H1, I1, rx, d, kvs, ex, hd, q⟩ => ?_))
  subst ex
  obtain rfl : u = Value.ref d := rx
  obtain ⟨hz, hs0, vs, kv, hdo⟩ := I1.hok d _ hd
  obtain ⟨ep, hat⟩ := hdo.dictAt
  have lk : kvs.length = vs.length := Paired.length kv
  have I2 : Inv X pins σ H1 { s1 with heap := s1.heap.push { cls := .type "dict_values", data := .fields #[.ref d] } } := I1.kept (t' := s1.toks) fun b ob z => Heap.get?_push_of_some _ z
  refine ⟨hdo.typeIs, hdo.mapOf.noDict, ?_⟩
  show wpAny _ _ (callWith cpos (.builtin "dict.values") [.ref d] [] []) _ X.xe s1
  refine method_meetsIn F.slot_dict_values F.entry_dict_values rfl (PySem.evalArgs_none ⟨rfl, hdo.typeIs, F.args_dict_values_1 _, _, meets_dict_values (mixKind X.prog X.w) d hs0, ⟨vs, hdo⟩, ?_⟩)
  refine Calls.spliced_nil ?_
  refine PySem.W.kdl_call (PySem.W.kdl_values (knd := mixKind X.prog X.w) (kvs := vs) (ep := ep) (d := d) (r := s1.heap.objs.size)) (I1.ok.hd hc) ⟨⟨_, Heap.get?_push_size _ rfl, rfl, rfl⟩, hat.push _⟩ (by omega) fun h' tk acc c hk hS hacc => ?_
  have hal : acc.toList.length = vs.length := by rw [Array.length_toList]; exact hacc.1
  have rv : Vals (kvs.map Prod.snd) acc.toList := vals_of_at (by rw [List.length_map, hal, lk]) fun j y u h1 h2 => by
    obtain ⟨k, hk2⟩ := hacc.2 j u (by rw [← Array.getElem?_toList]; exact h2)
    rw [List.getElem?_map] at h1
    obtain ⟨kv1, e1, e2⟩ := Option.map_eq_some_iff.mp h1
    obtain ⟨y2, g1, g2⟩ := LiI.paired_get kv e1
    rw [hk2] at g1
    cases g1
    rw [← e2]
    exact g2.2
  exact ⟨.ref _, _, I2.laid (t' := tk) hk (Nat.le_refl _) (show ObjOk X.prog X.w _ _ _ (.lst (kvs.map Prod.snd)) from ⟨by rw [List.length_map]; exact hz, acc.toList, c, rv, by rw [Array.toArray_toList]; exact hS⟩), rfl, q _ (I2.hok.fresh (Nat.le_refl _))⟩
end
/-- the dict at a, its keys at their addresses -/
structure NDx (P : Program) (w : World) (H : Hp) (a : Addr) (kvs : List (NK × V)) (xs : List (NK × Addr × Value)) : Prop where
  fits : kvs.length ≤ sizeLine
  nosys : (a == sysModules) = false
  at_ : H a = some (NDo P w a xs)
  rel : KN H kvs xs
theorem NDx.nd {P : Program} {w : World} {H : Hp} {a : Addr} {kvs : List (NK × V)} {xs : List (NK × Addr × Value)} (d : NDx P w H a kvs xs) : ND P w H a kvs := ⟨d.fits, d.nosys, xs, d.at_, d.rel⟩
theorem NDx.tups {P : Program} {w : World} {H H' : Hp} {a : Addr} {kvs : List (NK × V)} {xs : List (NK × Addr × Value)} (d : NDx P w H a kvs xs) (h : H' a = H a) (s : ∀ c ys, H c = some (.tup ys) → H' c = some (.tup ys)) : NDx P w H' a kvs xs := ⟨d.fits, d.nosys, h.trans d.at_, d.rel.keeps s⟩
section
variable {X : Cx}
theorem NDx.of {P : Program} {w : World} {H : Hp} {h : Heap} {a : Addr} {kvs : List (NK × V)} {xs : List (NK × Addr × Value)} (ok : HOk P w H h) (d : NDx P w H a kvs xs) : h.DictOfH (nk P w) a xs := by
  obtain ⟨⟨o, es, ep, g1, g2, g3, g4, g5⟩, _, _⟩ := (show ObjOk P w H h a (NDo P w a xs) from ok a _ d.at_)
  exact ⟨o, es, ep, g1, g2, g3, g4, KN.is ok d.rel, g5⟩
/-- {}, told so -/
theorem ndx_new {P : Program} {w : World} {H : Hp} {p : Addr} (d : ND P w (upd H p (NDo P w p [])) p []) : NDx P w (upd H p (NDo P w p [])) p [] [] := ⟨Nat.zero_le _, d.nosys, upd_same, .nil⟩
/-- d[k] = v, a new key -/
def rSetNew (P : Program) (w : World) : V → V → V → Hp → (Hp → Prop) → Prop := fun o i v H Q => ∃ a b kvs k xs, o = .ref a ∧ i = .ref b ∧ NDx P w H a kvs xs ∧ NestH H b k ∧ valV kvs k = none ∧ kvs.length < sizeLine ∧
  ∀ u z, NDx P w (upd H a u) a (kvs ++ [(k, v)]) (xs ++ [(k, b, z)]) → Q (upd H a u)
theorem set_nestNew (hu : X.A.units + 16 < cLine) : PSet X (rSetNew X.prog X.w) := by
  intro pins s σ H o i v ov iv u Q I ro ri rv h
  obtain ⟨a, b, kvs, k, xs, rfl, rfl, d, hk, hno, lt, q⟩ := h
  cases ro
  cases ri
  have dd := d.of I.hok
  have ea := d.at_
  have hz : xs.length ≤ sizeLine := by
    rw [← Paired.length d.rel]
    exact d.fits
  have hn : atKey xs k = none := by
    have e := (KN.val d.rel k).isSome_eq
    rw [hno, Option.isSome_map] at e
    cases h : atKey xs k with
    | none => rfl
    | some z =>
      rw [h] at e
      cases e
  refine wpAny_setItem_heap (knd := nk X.prog X.w) (hsz := hz) (by show X.A.units + 1 + 8 < cLine; omega) (hk.is I.hok) dd fun h' dd' hs => ?_
  rw [storedH_new hn] at dd'
  have st : ∀ c ys, H c = some (.tup ys) → (upd H a (NDo X.prog X.w a (xs ++ [(k, b, u)]))) c = some (.tup ys) := fun c ys e => by
    rw [upd_ne (ne_of e ea (fun z => ndo_ne z.symm))]
    exact e
  have he : ∃ q, h'.get? a = some q := let ⟨q, _, _, hq, _⟩ := dd'; ⟨q, hq⟩
  have rel := (KN.put d.rel k hk rv).keeps st
  rw [putK_new _ hno, storedH_new hn] at rel
  exact ⟨_, d_write I (by rw [ea]; exact True.intro) hs he (ndo_ok dd'), q _ u ⟨by rw [List.length_append]; exact lt, d.nosys, upd_same, rel⟩⟩
/-- list(d) -/
def rListN (P : Program) (w : World) : List V → Hp → VK → Prop := fun vs H Q => ∃ a kvs xs, vs = [.ref a] ∧ NDx P w H a kvs xs ∧ ∀ p, H p = none → Q (.ref p) (upd H p (.lst (xs.map fun x => V.ref x.2.1)))
theorem cr_listN (hcalm : X.calm = true) : CallR X (.type "list") (rListN X.prog X.w) := by
  intro pins s σ H xs us Q I r h
  obtain ⟨a, kvs, ks, rfl, d, q⟩ := h
  rw [Vals.ref1 r]
  obtain ⟨o, es, ep, h1, h2, h3, h4, _, _⟩ := d.of I.hok
  have raw : s.heap.DictRaw a es ep := ⟨o, h1, h2, h3⟩
  have les : es.size = ks.length := by
    have e := congrArg List.length h4
    rw [List.length_map, Array.length_toList] at e
    exact e
  have lk : kvs.length = ks.length := Paired.length d.rel
  have fit := d.fits
  refine PySem.W.kdl_call (KdlSrc.rawDict d.nosys) (I.ok.hd hcalm) raw (by omega) fun h' tk acc c hk hS hacc => ?_
  have rv : Vals (ks.map fun x => V.ref x.2.1) acc.toList := vals_of_at (by have g1 := hacc.1; have g2 : acc.toList.length = acc.size := Array.length_toList; rw [List.length_map]; omega) fun j y u g1 g2 => by
    obtain ⟨hi, e⟩ := hacc.2 j u (by rw [← Array.getElem?_toList]; exact g2)
    rw [List.getElem?_map] at g1
    obtain ⟨x, e1, e2⟩ := Option.map_eq_some_iff.mp g1
    have e3 : es.toList[j]? = some es[j] := by rw [Array.getElem?_toList]; exact Array.getElem?_eq_getElem hi
    rw [h4, List.getElem?_map, e1] at e3
    have e4 : entryOfKey (nk X.prog X.w) x = es[j] := Option.some.inj e3
    rw [← e2, e, ← e4]
    exact (show RelV (.ref x.2.1) (.ref x.2.1) from rfl)
  exact ⟨.ref _, _, I.laid (t' := tk) hk (Nat.le_refl _) (show ObjOk X.prog X.w _ _ _ (.lst (ks.map fun x => V.ref x.2.1)) from ⟨by rw [List.length_map]; omega, acc.toList, c, rv, by rw [Array.toArray_toList]; exact hS⟩), rfl, q _ (I.hok.fresh (Nat.le_refl _))⟩
end
end Vf

set_option maxRecDepth 100000
set_option maxHeartbeats 8000000
namespace Vf
open PySem PySem.Spec PyProof.Rows L2
/-- all tuples are kept -/
def Tups (H H' : Hp) : Prop := ∀ c ys, H c = some (.tup ys) → H' c = some (.tup ys)
theorem Same.tups {H H' : Hp} (s : Same H H') : Tups H H' := fun c ys e => s c _ e
theorem But.tups {p : Addr} {H H' : Hp} {xs : List V} (b : But p H H') (h : H p = some (.lst xs)) : Tups H H' := fun c ys e => b c _ (ne_of e h (by intro z; cases z)) e
theorem Tups.trans {H H1 H2 : Hp} (a : Tups H H1) (b : Tups H1 H2) : Tups H H2 := fun c ys e => b c ys (a c ys e)
structure LnT (H : Hp) (q : Addr) (l : Ln) : Prop where
  ex : ∃ t, H q = some (.tup [.ref t, .bl l.2]) ∧ H t = some (.tup (natV l.1))
structure HeldT (H : Hp) (a : Addr) (held : List Ln) : Prop where
  ex : ∃ qs : List (Addr × Ln), H a = some (.tup (qs.map fun q => V.ref q.1)) ∧ (∀ q ∈ qs, LnT H q.1 q.2) ∧ qs.map Prod.snd = held
structure StT (H : Hp) (a : Addr) (pl : List (Option Nat)) (held : List Ln) : Prop where
  ex : ∃ t u : Addr, H a = some (.tup [.ref t, .ref u]) ∧ H t = some (.tup (pl.map plV)) ∧ HeldT H u held
theorem LnT.tups {H H' : Hp} {q : Addr} {l : Ln} (h : LnT H q l) (s : Tups H H') : LnT H' q l := by
  obtain ⟨t, h1, h2⟩ := h
  exact ⟨t, s _ _ h1, s _ _ h2⟩
theorem HeldT.tups {H H' : Hp} {q : Addr} {l : List Ln} (h : HeldT H q l) (s : Tups H H') : HeldT H' q l := by
  obtain ⟨qs, h1, h2, h3⟩ := h
  exact ⟨qs, s _ _ h1, fun q hq => (h2 q hq).tups s, h3⟩
theorem StT.tups {H H' : Hp} {a : Addr} {pl : List (Option Nat)} {held : List Ln} (h : StT H a pl held) (s : Tups H H') : StT H' a pl held := by
  obtain ⟨t, u, h1, h2, h3⟩ := h
  exact ⟨t, u, s _ _ h1, s _ _ h2, h3.tups s⟩
theorem LnT.at_ {K : PySem.W.Frag} {H : Hp} {q : Addr} {l : Ln} (h : LnT H q l) : LnAt K H q l := by
  obtain ⟨t, h1, h2⟩ := h
  exact ⟨t, SqT.of h1, SqT.of h2⟩
theorem HeldT.at_ {K : PySem.W.Frag} {H : Hp} {q : Addr} {l : List Ln} (h : HeldT H q l) : HeldAt K H q l := by
  obtain ⟨qs, h1, h2, h3⟩ := h
  exact ⟨qs, SqT.of h1, fun q hq => (h2 q hq).at_, h3⟩
theorem StT.at_ {K : PySem.W.Frag} {H : Hp} {a : Addr} {pl : List (Option Nat)} {held : List Ln} (h : StT H a pl held) : StAt K H a pl held := by
  obtain ⟨t, u, h1, h2, h3⟩ := h
  exact ⟨t, u, SqT.of h1, SqT.of h2, h3.at_⟩
def plK : Option Nat → NK
  | none => .none
  | some i => .num (i : Int)
def lnK (l : Ln) : NK := .tup [.tup (l.1.map fun n : Nat => .num (n : Int)), .num (if l.2 = true then 1 else 0)]
def stK (pl : List (Option Nat)) (held : List Ln) : NK := .tup [.tup (pl.map plK), .tup (held.map lnK)]
theorem keyV_map {α : Type} {H : Hp} {a : Addr} {l : List α} {f : α → V} {g : α → NK} (h : H a = some (.tup (l.map f))) (hp : ∀ x ∈ l, KeyV H (f x) (g x)) : KeyV H (.ref a) (.tup (l.map g)) := by
  refine .tup h (by rw [List.length_map, List.length_map]) fun i x k h1 h2 => ?_
  rw [List.getElem?_map] at h1 h2
  cases e : l[i]? with
  | none =>
    rw [e] at h1
    cases h1
  | some y =>
    rw [e] at h1 h2
    obtain rfl : f y = x := Option.some.inj h1
    obtain rfl : g y = k := Option.some.inj h2
    exact hp y (List.mem_of_getElem? e)
theorem keyV_two {H : Hp} {a : Addr} {x y : V} {k j : NK} (h : H a = some (.tup [x, y])) (h1 : KeyV H x k) (h2 : KeyV H y j) : KeyV H (.ref a) (.tup [k, j]) := by
  refine .tup h rfl fun i z m e1 e2 => ?_
  match i, e1, e2 with
  | 0, e1, e2 =>
    obtain rfl : x = z := Option.some.inj e1
    obtain rfl : k = m := Option.some.inj e2
    exact h1
  | 1, e1, e2 =>
    obtain rfl : y = z := Option.some.inj e1
    obtain rfl : j = m := Option.some.inj e2
    exact h2
  | i + 2, e1, _ => exact absurd e1 (by simp)
theorem LnT.key {H : Hp} {q : Addr} {l : Ln} (h : LnT H q l) : KeyV H (.ref q) (lnK l) := by
  obtain ⟨t, h1, h2⟩ := h
  exact keyV_two h1 (keyV_map h2 fun n _ => .int (n : Int)) (.bl l.2)
theorem StT.keyV {H : Hp} {a : Addr} {pl : List (Option Nat)} {held : List Ln} (h : StT H a pl held) : KeyV H (.ref a) (stK pl held) := by
  obtain ⟨t, u, h1, h2, ⟨qs, h3, h4, h5⟩⟩ := h
  refine keyV_two h1 (keyV_map h2 fun o _ => ?_) ?_
  · cases o with
    | none => exact .non
    | some i => exact .int (i : Int)
  · rw [← h5, List.map_map]
    exact keyV_map h3 fun q hq => (h4 q hq).key
theorem depth_all {ks : List NK} {n : Nat} (h : ∀ k ∈ ks, k.depth ≤ n) : PySem.NestedKey.depthAll ks ≤ n := by
  induction ks with
  | nil => exact Nat.zero_le _
  | cons k ks ih =>
    rw [PySem.NestedKey.depthAll]
    exact Nat.max_le.mpr ⟨h k List.mem_cons_self, ih fun j hj => h j (List.mem_cons_of_mem _ hj)⟩
theorem depth_tup {ks : List NK} {n : Nat} (h : ∀ k ∈ ks, k.depth ≤ n) : (PySem.NestedKey.tup ks).depth ≤ n + 1 := by
  rw [PySem.NestedKey.depth]
  exact Nat.succ_le_succ (depth_all h)
theorem depth_map {α : Type} {l : List α} {g : α → NK} {n : Nat} (h : ∀ x, (g x).depth ≤ n) : (PySem.NestedKey.tup (l.map g)).depth ≤ n + 1 := depth_tup fun k hk => by
  obtain ⟨x, _, rfl⟩ := List.mem_map.mp hk
  exact h x
theorem StT.key {H : Hp} {a : Addr} {pl : List (Option Nat)} {held : List Ln} (h : StT H a pl held) : NestH H a (stK pl held) := by
  refine ⟨h.keyV, ?_⟩
  have d0 : ∀ i : Int, (PySem.NestedKey.num i).depth ≤ 1 := fun i => by rw [PySem.NestedKey.depth] <;> exact Nat.zero_le _
  have d1 : ∀ o, (plK o).depth ≤ 1 := fun o => by
    cases o with
    | none => rw [plK, PySem.NestedKey.depth] <;> exact Nat.zero_le _
    | some i => exact d0 _
  have d2 : ∀ l, (lnK l).depth ≤ 3 := fun l => depth_tup fun k hk => by
    rcases List.mem_cons.mp hk with rfl | hk
    · exact depth_map fun n => d0 _
    · rw [List.mem_singleton.mp hk]
      exact Nat.le_trans (d0 _) (by decide)
  have : (stK pl held).depth ≤ 5 := depth_tup fun k hk => by
    rcases List.mem_cons.mp hk with rfl | hk
    · exact Nat.le_trans (depth_map d1) (by decide)
    · rw [List.mem_singleton.mp hk]
      exact depth_map d2
  omega
end Vf

set_option maxRecDepth 100000
set_option maxHeartbeats 8000000
namespace Vf
open PySem PySem.Spec PyProof.Rows L2
section
variable {P : Program} {w : World} {K : PySem.W.Frag} {mg : Str → Option Value} {base : Heap}
def sp_law_start : Sp := fun vs H Q _ => ∃ (a b : Addr) (xs ys : List V), vs = [.ref a, .ref b] ∧ H a = some (.lst xs) ∧ H b = some (.lst ys) ∧ xs.length ≤ 100 ∧ ys.length ≤ 100 ∧ ∀ q H', Same H H' → StT H' q (ys.map fun _ => some 0) (xs.map fun _ => ([], false)) → Q (.ref q) H'
theorem ok_law_start {f : Addr} {fd : FuncData} (F : Fun K "_law_start" "_law_start" s_law_start f fd) (T : Txt0 K mg) : FnOk P w K mg base CX0 1 f fd p_law_start sp_law_start := by
  refine F.ok sc_law_start (fun vs H Q E h => ?_) (fun cdv A outer s H vs Q E hr h => ?_)
  · obtain ⟨a, b, xs, ys, rfl, _⟩ := h
    rfl
  · obtain ⟨a, b, xs, ys, rfl, ha, hb, fx, fy, k⟩ := h
    refine ⟨_, pss_one (ps_ret (pe_tup (pa_cons (pe_callTy call_tuple_of (by rfl) T.tuple (by decide +kernel) (pa_cons (pe_lc (own := [("nodes", 2)]) (g := gName 2) (tt := tYes) rfl sc_law_start.nd (pi_list (pv 1)) (blkOk_by (N := n_law_start) (sc := defScope s_law_start) (by decide +kernel))
          (fun _ _ _ _ _ => pg_name (i := 2) sc_law_start.nd rfl (Or.inl rfl)) (fun _ _ _ _ _ => pts_nil) (fun _ _ _ _ _ => pe_int)) pa_nil))
        (pa_cons (pe_callTy call_tuple_of (by rfl) T.tuple (by decide +kernel) (pa_cons (pe_lc (own := [("line", 3)]) (g := gName 3) (tt := tYes) rfl sc_law_start.nd (pi_list (pv 0)) (blkOk_by (N := n_law_start) (sc := defScope s_law_start) (by decide +kernel))
          (fun _ _ _ _ _ => pg_name (i := 3) sc_law_start.nd rfl (Or.inl rfl)) (fun _ _ _ _ _ => pts_nil) (fun _ _ _ _ _ => pe_tup (pa_cons (pe_tup pa_nil) (pa_cons pe_bl pa_nil)))) pa_nil)) pa_nil)))), ?_⟩
    refine ⟨_, rfl, b, rfl, ⟨_, SqL.of hb⟩, fun D hD => lc_mp ys (walk_list (K := K) (a := b) (xs := ys)) hD (fun _ => .int 0) (by omega) (fun H5 s5 => SqL.of (s5 _ _ hb)) ?_ ?_⟩
    · rintro j z x H2 H3 hj s2 ⟨rfl, hx⟩ R hR
      exact ⟨rfl, hR _ (Same.refl _)⟩
    · intro H2 s2 hL
      refine ⟨D, _, rfl, .inl ⟨SqL.of hL, fun t1 ht => ?_⟩⟩
      have s3 := s2.trans (same_new (o := .tup (ys.map fun _ => .int 0)) ht)
      refine ⟨_, rfl, a, rfl, ⟨_, SqL.of (s3 _ _ ha)⟩, fun D2 hD2 => lc_ad xs (walk_list (K := K) (a := a) (xs := xs)) hD2 (fun _ v H => ∃ q, v = .ref q ∧ LnT H q ([], false)) (by omega) (fun H5 s5 => SqL.of (s5 _ _ (s3 _ _ ha))) ?_ ?_⟩
      · rintro i a2 x H6 H7 ha2 s6 ⟨acc, hacc⟩ ⟨rfl, hx⟩ R hR
        refine ⟨rfl, Nat.zero_le _, fun t ht2 => ⟨(by show 2 ≤ sizeLine; decide), fun q hq => ?_⟩⟩
        refine hR (.ref q) _ ((same_new ht2).trans (same_new hq)) fun H8 b8 => ⟨q, rfl, t, ?_, ?_⟩
        · exact b8 q _ (ne_of_none (same_new ht2 _ _ hacc) hq).symm upd_same
        · exact b8 t _ (ne_of_none hacc ht2).symm (same_new hq _ _ upd_same)
      · intro H6 vs s6 hL6 hlen hpr
        obtain ⟨qs, rfl, e1, e2⟩ := refs_of (Pr := fun t (_ : V) H => LnT H t ([], false)) xs vs hlen hpr
        refine ⟨D2, _, rfl, .inl ⟨SqL.of hL6, fun u hu => ⟨(by show 2 ≤ sizeLine; decide), fun q hq => ?_⟩⟩⟩
        have su := same_new (o := .tup (qs.map fun q => V.ref q.1)) hu
        have sq := same_new (o := .tup [.ref t1, .ref u]) hq
        refine k q _ (s3.trans (s6.trans (su.trans sq))) ⟨t1, u, upd_same, ?_, ?_⟩
        · refine sq _ _ (su _ _ (s6 _ _ ?_))
          rw [upd_same, List.map_map]
          rfl
        · refine ⟨qs.map fun q => (q.1, ([], false)), sq _ _ (by rw [upd_same, List.map_map]; rfl), fun r hr => ?_, by rw [← e1, List.map_map, List.map_map]; rfl⟩
          obtain ⟨q', hq', rfl⟩ := List.mem_map.mp hr
          exact (e2 q' hq').tups (Vf.Same.tups (su.trans sq))
end
end Vf

set_option maxRecDepth 100000
set_option maxHeartbeats 8000000
namespace Vf
open PySem PySem.Spec PyProof.Rows L2
/-- the draws at p -/
def FeedAt (H : Hp) (p : Addr) : Prop := ∃ d st : Int, H p = some (.lst [.int d, .int st]) ∧ 0 ≤ d ∧ 0 ≤ st
theorem FeedAt.same {H H' : Hp} {p : Addr} (h : FeedAt H p) (s : Same H H') : FeedAt H' p := by
  obtain ⟨d, st, h1, h2, h3⟩ := h
  exact ⟨d, st, s _ _ h1, h2, h3⟩
theorem cut_at {xs : List V} {k : Nat} : cutV xs (some (k : Int)) (some ((k : Int) + 1)) = (xs.drop k).take 1 := by
  unfold cutV
  have e : ((k : Int) + 1) = ((k + 1 : Nat) : Int) := rfl
  rw [e, HT.sIx_nat, HT.sIx_nat]
  by_cases h : k < xs.length
  · rw [Nat.min_eq_left (by omega), Nat.min_eq_left (by omega), Nat.add_sub_cancel_left]
  · rw [Nat.min_eq_right (by omega), Nat.min_eq_right (by omega), Nat.sub_self, List.take_zero, List.drop_of_length_le (by omega), List.take_nil]
section
variable {P : Program} {w : World} {K : PySem.W.Frag} {mg : Str → Option Value} {base : Heap}
def sp_law_feed (K : PySem.W.Frag) : Sp := fun vs H Q _ => ∃ (a : Addr) (ns : List Int) (k : Nat), vs = [.ref a, .int (k : Int)] ∧ SqL K H a (ns.map V.int) ∧ k ≤ 1000 ∧ ∀ p H', Same H H' → H p = none → FeedAt H' p → Q (.ref p) H'
theorem ok_law_feed {f : Addr} {fd : FuncData} (F : Fun K "_law_feed" "_law_feed" s_law_feed f fd) (T : Txt0 K mg) : FnOk P w K mg base CX0 1 f fd p_law_feed (sp_law_feed K) := by
  refine F.ok sc_law_feed (fun vs H Q E h => ?_) (fun cdv A outer s H vs Q E hr h => ?_)
  · obtain ⟨a, ns, k, rfl, _⟩ := h
    rfl
  · obtain ⟨a, ns, k, rfl, hS, hk, q⟩ := h
    refine ⟨_, pss_cons (ps_set (i := 2) sc_law_feed.nd rfl (Or.inl rfl) (pe_ix ix_list (pe_op op_cat (pe_callTy call_list_of (by rfl) T.list (by decide +kernel) (pa_cons (pe_slice sl_list (pv 0) (po_some (pv 1)) (po_some (pe_op op_add (pv 1) pe_int))) pa_nil))
          (pe_lst (pa_cons (pe_op op_add (pe_op op_mul pe_int (pv 1)) pe_int) pa_nil))) pe_int (fun _ _ => rfl)))
      (pss_cons (ps_set (i := 3) sc_law_feed.nd rfl (Or.inl rfl) (pe_callB (call_max2 rfl) (by rfl) T.max (by decide +kernel) (pa_cons pe_int (pa_cons (pe_op op_sub (pe_callB call_abs (by rfl) T.abs (by decide +kernel) (pa_cons (pv 2) pa_nil)) (pe_op op_pow pe_int pe_int)) pa_nil))))
      (pss_one (ps_ret (pe_lst (pa_cons (pv 3) (pa_cons (pe_op op_mod (pe_callTy call_int1 (by rfl) T.int (by decide +kernel) (pa_cons
          (pe_op op_add (pe_op op_add (pe_op op_mul (pe_op op_mod (pe_callTy call_int1 (by rfl) T.int (by decide +kernel) (pa_cons (pe_callB call_abs (by rfl) T.abs (by decide +kernel) (pa_cons (pv 2) pa_nil)) pa_nil)) pe_int) pe_int) (pe_op op_mul pe_int (pv 1))) pe_int) pa_nil)) pe_int) pa_nil)))))), ?_⟩
    refine ⟨_, rfl, _, rfl, k, rfl, _, rfl, k, 1, rfl, rfl, _, rfl, a, _, rfl, hS, fun p1 h1 => ?_⟩
    have s1 := same_new (o := .lst (cutV (ns.map V.int) (some (k : Int)) (some ((k : Int) + 1)))) h1
    refine ⟨p1, _, rfl, .inl (SqL.of upd_same), fun p2 h2 => ?_⟩
    have s2 := same_new (o := .lst (cutV (ns.map V.int) (some (k : Int)) (some ((k : Int) + 1)))) h2
    refine ⟨_, rfl, 71, k, rfl, rfl, .inl (by decide), _, _, rfl, rfl, (by show 1 ≤ sizeLine; decide), fun p3 h3 => ?_⟩
    have h23 : p2 ≠ p3 := fun e => by
      rw [← e, upd_same] at h3
      cases h3
    refine ⟨p2, p3, _, _, rfl, rfl, Eq.trans (upd_ne h23) upd_same, upd_same, ?_, fun p4 h4 => ?_⟩
    · rw [cut_at, List.length_take, sizeLine_eq]
      show min 1 _ + 1 ≤ _
      omega
    simp only [cut_at] at s1 s2 h3 h4 ⊢
    obtain ⟨sd, rest, hsd⟩ : ∃ (sd : Int) (rest : List V), (((ns.map V.int).drop k).take 1) ++ [V.int (71 * k + 23)] = V.int sd :: rest := by
      by_cases hkn : k < ns.length
      · refine ⟨ns[k], [V.int (71 * k + 23)], ?_⟩
        rw [List.drop_eq_getElem_cons (by rw [List.length_map]; exact hkn), List.getElem_map]
        rfl
      · refine ⟨71 * k + 23, [], ?_⟩
        rw [List.drop_of_length_le (by rw [List.length_map]; omega)]
        rfl
    refine ⟨p4, _, (0 : Int), .int sd, rfl, rfl, SqL.of upd_same, at_of (j := 0) rfl (by show (_ ++ _)[0]? = _; rw [hsd]; rfl), ?_⟩
    have pos64 : ∀ x : Int, -(2 ^ 64) < x % 1000003 ∧ x % 1000003 < 2 ^ 64 := fun x => by
      have h1 := Int.emod_nonneg x (by decide : (1000003 : Int) ≠ 0)
      have h2 := Int.emod_lt_of_pos x (by decide : (0 : Int) < 1000003)
      omega
    have z18 : (0 : Int) ≤ 18 ∧ (18 : Int) ≤ 1000000 ∧ (10 : Int).natAbs < 2 ^ 64 := by decide
    refine ⟨_, rfl, sd, rfl, 10, 18, rfl, rfl, z18, _, _, rfl, rfl, _, _, rfl, ?_⟩
    refine ⟨_, rfl, _, rfl, sd, rfl, .inl ⟨_, rfl, _, _, rfl, rfl, (by show (0 : Int) < 1000003; decide), _, _, rfl, rfl, .inl (pos64 _), _, rfl, 31, k, rfl, rfl, .inl (by decide), _, _, rfl, rfl, _, _, rfl, rfl,
      .inl ⟨_, rfl, _, _, rfl, rfl, (by show (0 : Int) < 1000033; decide), (by show 2 ≤ sizeLine; decide), fun p hp => ?_⟩⟩⟩
    refine q p _ ((((s1.trans s2).trans (same_new h3)).trans (same_new h4)).trans (same_new hp)) (Same.free (((s1.trans s2).trans (same_new h3)).trans (same_new h4)) hp) ⟨_, _, upd_same, ?_, Int.emod_nonneg _ (by decide)⟩
    split <;> omega
def sp_law_take : Sp := fun vs H Q _ => ∃ (p : Addr) (n : Nat), vs = [.ref p, .int (n : Int)] ∧ FeedAt H p ∧ 1 ≤ n ∧ n ≤ 1000000 ∧ ∀ (r : Nat) H', r < n → But p H H' → FeedAt H' p → Q (.int (r : Int)) H'
theorem ok_law_take {f : Addr} {fd : FuncData} (F : Fun K "_law_take" "_law_take" s_law_take f fd) (T : Txt0 K mg) : FnOk P w K mg base CX0 1 f fd p_law_take sp_law_take := by
  refine F.ok sc_law_take (fun vs H Q E h => ?_) (fun cdv A outer s H vs Q E hr h => ?_)
  · obtain ⟨p, n, rfl, _⟩ := h
    rfl
  · obtain ⟨p, n, rfl, ⟨d, st, hp, hd, hst⟩, h1, h2, k⟩ := h
    refine ⟨_, pss_cons (ps_if (pt_cmpR op_gt (pe_ix ix_list (pv 0) pe_int (fun _ _ => rfl)) pe_int (nomark _))
        (pss_cons (ps_set (i := 2) sc_law_take.nd rfl (Or.inl rfl) (pe_op op_mod (pe_callTy call_int1 (by rfl) T.int (by decide +kernel) (pa_cons (pe_ix ix_list (pv 0) pe_int (fun _ _ => rfl)) pa_nil)) (pv 1)))
        (pss_cons (ps_asg (pe_op op_fdivN (pe_ix ix_list (pv 0) pe_int (fun _ _ => rfl)) (pv 1)) (pg_sub (pv 0) pe_int set_list))
        (pss_one (ps_ret (pv 2))))) pss_nil)
      (pss_cons (ps_asg (pe_op op_mod (pe_callTy call_int1 (by rfl) T.int (by decide +kernel) (pa_cons (pe_op op_add (pe_op op_mul (pe_ix ix_list (pv 0) pe_int (fun _ _ => rfl)) pe_int) pe_int) pa_nil)) pe_int) (pg_sub (pv 0) pe_int set_list))
      (pss_one (ps_ret (pe_op op_mod (pe_callTy call_int1 (by rfl) T.int (by decide +kernel) (pa_cons (pe_op op_fdivN (pe_ix ix_list (pv 0) pe_int (fun _ _ => rfl)) pe_int) pa_nil)) (pv 1))))), ?_⟩
    refine ⟨_, rfl, p, _, (0 : Int), .int d, rfl, rfl, SqL.of hp, at_of (j := 0) rfl rfl, _, _, rfl, rfl, _, rfl, ?_⟩
    by_cases hd0 : 0 < d
    · rw [decide_eq_true hd0]
      refine iteT ⟨_, rfl, p, _, (0 : Int), .int d, rfl, rfl, SqL.of hp, at_of (j := 0) rfl rfl, .inl ⟨d, rfl, _, rfl, d, n, rfl, rfl, (by omega), ?_⟩⟩
      refine ⟨_, rfl, p, _, (0 : Int), .int d, rfl, rfl, SqL.of hp, at_of (j := 0) rfl rfl, _, rfl, d, n, rfl, rfl, ⟨by omega, by omega⟩, _, rfl, ?_⟩
      refine ⟨p, _, (0 : Int), 0, rfl, rfl, hp, rfl, ?_⟩
      refine ⟨_, rfl, ?_⟩
      have hm1 := Int.emod_nonneg d (b := (n : Int)) (by omega)
      have hm2 := Int.emod_lt_of_pos d (b := (n : Int)) (by omega)
      obtain ⟨r, hr⟩ : ∃ r : Nat, d % (n : Int) = (r : Int) := ⟨(d % (n : Int)).toNat, by omega⟩
      show Q (.int (d % (n : Int))) _
      rw [hr]
      refine k r _ (by omega) (But.refl p H).put ⟨d.fdiv n, st, upd_same, ?_, hst⟩
      exact Int.fdiv_nonneg hd (by omega)
    · rw [decide_eq_false hd0]
      refine iteF ⟨_, rfl, p, _, (1 : Int), .int st, rfl, rfl, SqL.of hp, at_of (j := 1) rfl rfl, _, _, rfl, rfl, .inr (by decide), _, _, rfl, rfl,
        .inl ⟨_, rfl, _, _, rfl, rfl, (by show (0 : Int) < 4294967311; decide), _, rfl, p, _, (1 : Int), 1, rfl, rfl, hp, rfl, ?_⟩⟩
      have hp2 : (upd H p (.lst ([V.int d, V.int st].set 1 (.int ((st * 69069 + 12345) % 4294967311))))) p = some (.lst [.int d, .int ((st * 69069 + 12345) % 4294967311)]) := upd_same
      have hst2 := Int.emod_nonneg (st * 69069 + 12345) (by decide : (4294967311 : Int) ≠ 0)
      refine ⟨_, rfl, p, _, (1 : Int), .int ((st * 69069 + 12345) % 4294967311), rfl, rfl, SqL.of hp2, at_of (j := 1) rfl rfl, ((st * 69069 + 12345) % 4294967311), 65536, rfl, rfl, ⟨by decide, by decide⟩, .inl ⟨_, rfl, _, rfl, _, (n : Int), rfl, rfl, by omega, ?_⟩⟩
      have hm1 := Int.emod_nonneg (((st * 69069 + 12345) % 4294967311).fdiv 65536) (b := (n : Int)) (by omega)
      have hm2 := Int.emod_lt_of_pos (((st * 69069 + 12345) % 4294967311).fdiv 65536) (b := (n : Int)) (by omega)
      obtain ⟨r, hr⟩ : ∃ r : Nat, (((st * 69069 + 12345) % 4294967311).fdiv 65536) % (n : Int) = (r : Int) := ⟨((((st * 69069 + 12345) % 4294967311).fdiv 65536) % (n : Int)).toNat, by omega⟩
      show Q (.int ((((st * 69069 + 12345) % 4294967311).fdiv 65536) % (n : Int))) _
      rw [hr]
      exact k r _ (by omega) (But.refl p H).put ⟨d, ((st * 69069 + 12345) % 4294967311), hp2, hd, hst2⟩
def sp_law_pick (K : PySem.W.Frag) : Sp := fun vs H Q _ => ∃ (p c : Addr) (xs : List V), vs = [.ref p, .ref c] ∧ FeedAt H p ∧ p ≠ c ∧ SqL K H c xs ∧ 1 ≤ xs.length ∧ xs.length ≤ 1000000 ∧
  ∀ (r : Nat) (v : V) H', xs[r]? = some v → But p H H' → FeedAt H' p → Q v H'
theorem SqL.but {K : PySem.W.Frag} {H H' : Hp} {a p : Addr} {xs : List V} (h : SqL K H a xs) (s : But p H H') (hn : a ≠ p) : SqL K H' a xs := by
  rcases h with (h | ⟨o, h⟩) | h
  · exact .inl (.inl (s _ _ hn h))
  · exact .inl (.inr ⟨o, s _ _ hn h⟩)
  · exact .inr h
theorem ok_law_pick {f : Addr} {fd : FuncData} (F : Fun K "_law_pick" "_law_pick" s_law_pick f fd) (T0 : Txt0 K mg) (GT : OkF P w K mg base CX0 "_law_take" p_law_take 1 sp_law_take) : FnOk P w K mg base CX0 2 f fd p_law_pick (sp_law_pick K) := by
  refine F.ok sc_law_pick (fun vs H Q E h => ?_) (fun cdv A outer s H vs Q E hr h => ?_)
  · obtain ⟨p, c, xs, rfl, _⟩ := h
    rfl
  · obtain ⟨p, c, xs, rfl, hp, hpc, hS, h1, h2, k⟩ := h
    refine ⟨_, pss_one (ps_ret (pe_ix ix_list (pv 1) (pe_fn GT hr rfl pass0 (pa_cons (pv 0) (pa_cons (pe_callB call_len_seq (by rfl) T0.len PySem.boot_len (pa_cons (pv 1) pa_nil)) pa_nil))) (fun _ _ => rfl))), ?_⟩
    refine ⟨_, rfl, _, rfl, _, rfl, c, xs, rfl, .inl hS, p, xs.length, rfl, hp, h1, h2, fun r H2 hr2 hb hp2 => ?_⟩
    exact ⟨c, xs, (r : Int), xs[r], rfl, rfl, Vf.SqL.but hS hb hpc.symm, at_of rfl (List.getElem?_eq_getElem hr2), k r _ H2 (List.getElem?_eq_getElem hr2) hb hp2⟩
end
end Vf

set_option maxRecDepth 100000
set_option maxHeartbeats 8000000
namespace Vf
open PySem PySem.Spec PyProof.Rows L2
theorem But.new {p l : Addr} {H H' : Hp} {o : HO} (b : But p H H') (h : H l = none) : But p H (upd H' l o) := fun c u hc e => by
  rw [upd_ne (ne_of_none e h)]
  exact b c u hc e
theorem FeedAt.put {H : Hp} {p l : Addr} {o : HO} (h : FeedAt H p) (hn : p ≠ l) : FeedAt (upd H l o) p := by
  obtain ⟨d, st, h1, h2, h3⟩ := h
  exact ⟨d, st, by rw [upd_ne hn]; exact h1, h2, h3⟩
theorem FeedAt.ne {H : Hp} {p l : Addr} (h : FeedAt H p) (hl : H l = none) : p ≠ l := by
  obtain ⟨d, st, h1, _⟩ := h
  exact ne_of_none h1 hl
end Vf

set_option maxRecDepth 100000
set_option maxHeartbeats 8000000
namespace Vf
open PySem PySem.Spec PyProof.Rows L2
section
variable {J : It} {n : Nat} {G : Hp → Prop} {Y : Nat → Hp → V → Hp → Prop}
/-- [.. for .. in ..] whose turns draw -/
theorem lc_feed {α : Type} (l : List α) (w : Walk J l.length G Y) {g : TG} {te : TE} {vs : List Nat} {σ : L2.St} {H1 : Hp} {D p : Addr} {Qd : Hp → Prop} (hD : H1 D = none) (f1 : FeedAt H1 p) (Pr : α → V → Hp → Prop) (hn : l.length < 1000000) (hG : ∀ H, But p H1 H → G H)
    (hs : ∀ i a x H H', l[i]? = some a → But p H1 H → FeedAt H p → (∃ acc, H D = some (.lst acc)) → Y i H x H' → ∀ R : V → Hp → Prop, (∀ v H4, But p H H4 → FeedAt H4 p → (∀ H5, (∀ b o, b ≠ p → b ≠ D → H4 b = some o → H5 b = some o) → Pr a v H5) → R v H4) →
      g x (wipe σ vs) H' fun σ2 H2 => wipe σ2 vs = wipe σ vs ∧ te σ2 H2 R)
    (hd : ∀ H (xs : List V), But p H1 H → FeedAt H p → H D = some (.lst xs) → xs.length = l.length → (∀ (i : Nat) (a : α) (v : V), l[i]? = some a → xs[i]? = some v → Pr a v H) → Qd H) :
    ∃ W : Nat → Nat → Hp → Prop, (∃ m, W 0 m (upd H1 D (.lst []))) ∧ ∀ i m H, W i m H →
      (J.stop i H ∧ Qd H) ∨ (J.go i H ∧ ∃ Nx : Hp → Prop, (∀ H', Nx H' → ∃ m', m' < m ∧ W (i + 1) m' H') ∧ ∀ x H', J.yld i H x H' → g x (wipe σ vs) H' fun σ2 H2 => wipe σ2 vs = wipe σ vs ∧ tYes σ2 H2 fun b H3 =>
        if b = true then te σ2 H3 fun y H4 => ∃ acc, H4 D = some (.lst acc) ∧ acc.length < sizeLine ∧ Nx (upd H4 D (.lst (acc ++ [y]))) else Nx H3) := by
  have hpD : p ≠ D := f1.ne hD
  refine ⟨fun i m H => m = l.length - i ∧ i ≤ l.length ∧ But p H1 H ∧ FeedAt H p ∧ ∃ xs : List V, H D = some (.lst xs) ∧ xs.length = i ∧ ∀ (j : Nat) (a : α) (v : V), l[j]? = some a → xs[j]? = some v → ∀ H5, (∀ b o, b ≠ p → b ≠ D → H b = some o → H5 b = some o) → Pr a v H5, ⟨l.length, by simp, Nat.zero_le _, (But.refl p H1).new hD, f1.put hpD, [], upd_same, rfl, fun j a v _ h => by simp at h⟩, ?_⟩
  rintro i m H ⟨rfl, hi, s, f, xs, hH, hxs, hp⟩
  by_cases hlt : i < l.length
  · have ha : l[i]? = some l[i] := List.getElem?_eq_getElem hlt
    refine .inr ⟨w.goes i H hlt (hG H s), fun H' => But p H1 H' ∧ FeedAt H' p ∧ ∃ xs : List V, H' D = some (.lst xs) ∧ xs.length = i + 1 ∧ ∀ (j : Nat) (a : α) (v : V), l[j]? = some a → xs[j]? = some v → ∀ H5, (∀ b o, b ≠ p → b ≠ D → H' b = some o → H5 b = some o) → Pr a v H5, fun H' q => ⟨l.length - (i + 1), by omega, rfl, hlt, q⟩, fun x H' y => ?_⟩
    have q := hs i _ x H H' ha s f ⟨xs, hH⟩ (w.yields i H x H' hlt (hG H s) y) (fun y H4 => ∃ acc, H4 D = some (.lst acc) ∧ acc.length < sizeLine ∧ But p H1 (upd H4 D (.lst (acc ++ [y]))) ∧ FeedAt (upd H4 D (.lst (acc ++ [y]))) p ∧ ∃ xs : List V, (upd H4 D (.lst (acc ++ [y]))) D = some (.lst xs) ∧ xs.length = i + 1 ∧ ∀ (j : Nat) (a : α) (v : V), l[j]? = some a → xs[j]? = some v → ∀ H5, (∀ b o, b ≠ p → b ≠ D → (upd H4 D (.lst (acc ++ [y]))) b = some o → H5 b = some o) → Pr a v H5) ?_
    · exact q
    intro v H4 s4 f4 hv
    have e4 := s4 D _ hpD.symm hH
    refine ⟨xs, e4, by rw [sizeLine_eq]; omega, (s.trans s4).new hD, f4.put hpD, xs ++ [v], upd_same, by rw [List.length_append, hxs]; rfl, fun j a u hj hu H5 b5 => ?_⟩
    have b4 : ∀ b o, b ≠ p → b ≠ D → H4 b = some o → H5 b = some o := fun b o h1 h2 e => b5 b o h1 h2 (by rw [upd_ne h2]; exact e)
    by_cases hj' : j < xs.length
    · rw [List.getElem?_append_left hj'] at hu
      exact hp j a u hj hu H5 fun b o h1 h2 e => b4 b o h1 h2 (s4 b o h1 e)
    · have ej : j = xs.length := by
        have := (List.getElem?_eq_some_iff.mp hu).1
        rw [List.length_append, List.length_singleton] at this
        omega
      subst ej
      rw [List.getElem?_append_right (Nat.le_refl _), Nat.sub_self] at hu
      obtain rfl : v = u := by simpa using hu
      rw [hxs, ha] at hj
      obtain rfl : l[i] = a := Option.some.inj hj
      exact hv H5 b4
  · have e : i = l.length := by omega
    subst e
    exact .inl ⟨w.stops H (hG H s), hd H xs s f hH hxs fun j a v h1 h2 => hp j a v h1 h2 H fun b o _ _ e => e⟩
end
theorem cut_to {nm : List Str} {r : Nat} (h : r + 1 ≤ nm.length) : cutV (nm.map V.str) none (some (1 + (r : Int))) = (nm.take (r + 1)).map V.str := by
  unfold cutV
  have e : (1 + (r : Int)) = ((r + 1 : Nat) : Int) := by omega
  rw [HT.sIx_none, e, HT.sIx_nat, List.drop_zero, Nat.sub_zero, List.length_map, Nat.min_eq_left h, List.map_take]
end Vf

set_option maxRecDepth 100000
set_option maxHeartbeats 8000000
namespace Vf
open PySem PySem.Spec PyProof.Rows L2
def tgD : Option Nat → PyData
  | none => .none
  | some k => .int (k : Int)
theorem plain_tg : ∀ tg : List (Option Nat), plainAll (tg.map tgD) = true
  | [] => rfl
  | none :: r => by simp only [List.map_cons, tgD, plainAll, plainD, Bool.true_and, plain_tg r]
  | some _ :: r => by simp only [List.map_cons, tgD, plainAll, plainD, Bool.true_and, plain_tg r]
theorem depth_tg : ∀ tg : List (Option Nat), PyData.depthAll (tg.map tgD) = 0
  | [] => rfl
  | none :: r => by simp only [List.map_cons, tgD, PyData.depthAll, PyData.depth, depth_tg r, Nat.max_self]
  | some _ :: r => by simp only [List.map_cons, tgD, PyData.depthAll, PyData.depth, depth_tg r, Nat.max_self]
theorem dp_tg {K : PySem.W.Frag} {H : Hp} : ∀ tg : List (Option Nat), DpAll K H (tg.map tgV) (tg.map tgD)
  | [] => .nil
  | none :: r => .cons .non (dp_tg r)
  | some k :: r => .cons (.int k) (dp_tg r)
theorem tgD_inj : ∀ {a b : Option Nat}, tgD a = tgD b → a = b
  | none, none, _ => rfl
  | none, some _, h => by cases h
  | some _, none, h => by cases h
  | some a, some b, h => by
    have h' : (a : Int) = (b : Int) := PyData.int.inj h
    rw [Int.ofNat_inj.mp h']
theorem map_tgD_inj : ∀ {a b : List (Option Nat)}, a.map tgD = b.map tgD → a = b
  | [], [], _ => rfl
  | [], _ :: _, h => by cases h
  | _ :: _, [], h => by cases h
  | x :: a, y :: b, h => by
    rw [List.map_cons, List.map_cons] at h
    injection h with h1 h2
    rw [tgD_inj h1, map_tgD_inj h2]
theorem eqv_tg (a b : List (Option Nat)) : PyData.eqv (.tuple (a.map tgD)) (.tuple (b.map tgD)) = decide (a = b) :=
  eqv_dec (by simp only [plainD, plain_tg]) (by simp only [plainD, plain_tg]) ⟨fun h => map_tgD_inj (PyData.tuple.inj h), fun h => by rw [h]⟩
theorem shaped_tg (tg : List (Option Nat)) : SeqAt.shaped (.tuple (tg.map tgD)) = true :=
  shaped_of (by simp only [plainD, plain_tg]) (by simp only [PyData.depth, depth_tg]; decide)
theorem sum_le {l : List Str} {b : Nat} (h : ∀ z ∈ l, z.length ≤ b) : (l.map (·.length)).sum ≤ l.length * b := by
  induction l with
  | nil => exact Nat.zero_le _
  | cons a l ih =>
    have h1 := h a List.mem_cons_self
    have h2 := ih fun z hz => h z (List.mem_cons_of_mem _ hz)
    rw [List.map_cons, List.sum_cons, List.length_cons, Nat.succ_mul]
    omega
theorem join_le {y : Str} {l : List Str} {b : Nat} (h : ∀ z ∈ l, z.length ≤ b) : (Txt.join y l).length ≤ l.length * b + l.length * y.length := by
  rw [TL.join_eq]
  exact Nat.le_trans (StrLaws.join_length_le y l) (Nat.add_le_add_right (sum_le h) _)
theorem rises_le {many : Nat} : ∀ {ks : List Nat}, rises ks = true → (∀ k ∈ ks, k < many) → ks.length ≤ many := fun {ks} h hk => by
  have nd : ks.Nodup := ((rises_iff ks).mp h).imp fun q => Nat.ne_of_lt q
  have := nodup_len (m := List.range many) nd fun k h => List.mem_range.mpr (hk k h)
  rwa [List.length_range] at this
theorem GoodTg.len {many : Nat} {tg : List (Option Nat)} (g : GoodTg many tg) : tg.length ≤ many + 1 := by
  obtain ⟨_, ks, e, rfl, hr, hk⟩ := g
  have := rises_le hr hk
  rw [List.length_append, List.length_map]
  cases e
  · show ks.length + 0 ≤ _
    omega
  · show ks.length + 1 ≤ _
    omega
theorem GoodTg.lt {many : Nat} {tg : List (Option Nat)} (g : GoodTg many tg) {k : Nat} (h : some k ∈ tg) : k < many := by
  obtain ⟨_, ks, e, rfl, _, hk⟩ := g
  rcases List.mem_append.mp h with h | h
  · obtain ⟨j, hj, e⟩ := List.mem_map.mp h
    rw [← Option.some.inj e]
    exact hk j hj
  · cases e <;> simp at h
theorem natS_len {k : Nat} (h : k < 100) : (natS k).length ≤ 2 := by
  rw [TL.len_tl, tl_natS]
  exact TL.numL_len (by decide) (by simpa using h)
theorem part_le {many : Nat} {n : Nd} (g : GoodNd many n) (hm : many ≤ 60) (f : Bool) : ∀ z ∈ rowW f n, z.length ≤ 8 := fun z hz => by
  have hw : n.word.length ≤ 8 := by rcases g.word with e | e <;> rw [e] <;> decide +kernel
  have hc := (name_len g.cell).2
  unfold rowW at hz
  split at hz
  · rcases List.mem_cons.mp hz with rfl | hz
    · exact hw
    · rw [List.mem_singleton.mp hz]
      exact hc
  · rcases List.mem_cons.mp hz with rfl | hz
    · exact hw
    rcases List.mem_cons.mp hz with rfl | hz
    · exact hc
    rcases List.mem_cons.mp hz with rfl | hz
    · decide +kernel
    · obtain ⟨t, ht, rfl⟩ := List.mem_map.mp hz
      cases t with
      | none => show sEnd.length ≤ 8; decide +kernel
      | some k =>
        have := natS_len (k := k) (by have := g.tg.lt ht; omega)
        show (natS k).length ≤ 8
        omega
theorem rowW_len {many : Nat} {n : Nd} (g : GoodNd many n) (f : Bool) : (rowW f n).length ≤ many + 4 := by
  have := g.tg.len
  unfold rowW
  split
  · show 2 ≤ many + 4
    omega
  · rw [List.length_cons, List.length_cons, List.length_cons, List.length_map]
    omega
theorem rowS_le {many : Nat} {n : Nd} (g : GoodNd many n) (hm : many ≤ 60) (f : Bool) : (rowS f n).length ≤ 600 := by
  have h1 := join_le (y := sSp) (part_le g hm f)
  have h2 := rowW_len g f
  have h3 : sSp.length = 1 := by decide +kernel
  rw [h3] at h1
  have h4 : (rowW f n).length * 8 + (rowW f n).length * 1 ≤ 600 := by omega
  exact Nat.le_trans h1 h4
def sArr2 : Str := " -> "
theorem tl_inj {a b : Str} (h : TL.tl a = TL.tl b) : a = b := by
  cases a
  cases b
  simp only [TL.tl, Str.mk.injEq] at h ⊢
  exact Array.toList_inj.mp h
theorem row_bare {n : Nd} (h : n.tg = [none]) : n.word ++ sSp ++ n.cell = rowS false n := by
  refine tl_inj ?_
  unfold rowS rowW
  rw [if_pos ⟨rfl, h⟩, TL.join_eq, TL.tl_join, TL.tl_append, TL.tl_append]
  show _ = TL.tl n.word ++ (TL.tl sSp ++ TL.tl n.cell)
  rw [List.append_assoc]
theorem row_full {f : Bool} {n : Nd} (h : f = true ∨ n.tg ≠ [none]) (hne : n.tg ≠ []) : n.word ++ sSp ++ n.cell ++ sArr2 ++ Txt.join sSp (n.tg.map tgS) = rowS f n := by
  refine tl_inj ?_
  unfold rowS rowW
  rw [if_neg (by rintro ⟨h1, h2⟩; rcases h with h | h; rw [h1] at h; cases h; exact h h2), TL.join_eq, TL.join_eq, TL.tl_join, TL.tl_append, TL.tl_append, TL.tl_append, TL.tl_append, TL.tl_join]
  obtain ⟨t, r, e⟩ := List.exists_cons_of_ne_nil hne
  rw [e]
  show _ = TL.tl n.word ++ (TL.tl sSp ++ (TL.tl n.cell ++ (TL.tl sSp ++ (TL.tl sArrow ++ (TL.tl sSp ++ TL.joinL (TL.tl sSp) (((t :: r).map tgS).map TL.tl))))))
  have e2 : TL.tl sArr2 = TL.tl sSp ++ (TL.tl sArrow ++ TL.tl sSp) := by decide +kernel
  rw [e2]
  simp only [List.append_assoc]
theorem rows_of (f : Bool) : ∀ ns : List Nd, Rows (ns.map (rowS f)) ns
  | [] => .nil
  | _ :: ns => .cons f (rows_of f ns)
end Vf

set_option maxRecDepth 100000
set_option maxHeartbeats 8000000
namespace Vf
open PySem PySem.Spec PyProof.Rows L2
theorem tgS_text (k : Nat) : natS k = Str.ofString (toString (k : Int)) := rfl
theorem log2_small {k : Nat} (h : k < 1000) : (k : Int).natAbs.log2 < 1920 := by
  show k.log2 < 1920
  exact Nat.lt_of_le_of_lt (Nat.log2_le_self k) (by omega)
structure Good (ns : List Nd) : Prop where
  few : ns.length ≤ 8
  some : ns ≠ []
  all : ∀ n ∈ ns, GoodNd ns.length n
section
variable {P : Program} {w : World} {K : PySem.W.Frag} {mg : Str → Option Value} {base : Heap}
def sp_law_text : Sp := fun vs H Q _ => ∃ (t : Addr) (ns : List Nd), vs = [.ref t] ∧ NodesAt H t ns ∧ Good ns ∧ ∀ H', Same H H' → Q (.str (Txt.join sNl (ns.map (rowS false)))) H'
theorem ok_law_text {f : Addr} {fd : FuncData} (F : Fun K "_law_text" "_law_text" s_law_text f fd) (T0 : Txt0 K mg) : FnOk P w K mg base CX0 1 f fd p_law_text sp_law_text := by
  refine F.ok sc_law_text (fun vs H Q E h => ?_) (fun cdv A outer s H vs Q E hr h => ?_)
  · obtain ⟨t, ns, rfl, _⟩ := h
    rfl
  · obtain ⟨t, ns, rfl, ⟨as, ht, hin⟩, g, k⟩ := h
    refine ⟨_, pss_cons (ps_set (i := 1) sc_law_text.nd rfl (Or.inl rfl) (pe_lst pa_nil))
      (pss_cons (ps_for PassesOwn.never rfl (pi_tup (pv 0)) (pg_tup (by rfl) (pgs_cons (pg_name (i := 2) sc_law_text.nd rfl (Or.inl rfl)) (pgs_cons (pg_name (i := 3) sc_law_text.nd rfl (Or.inl rfl)) (pgs_cons (pg_name (i := 4) sc_law_text.nd rfl (Or.inl rfl)) pgs_nil))))
        (pss_cons (ps_set (i := 5) sc_law_text.nd rfl (Or.inl rfl) (pe_op op_add_str (pe_op op_add_str (pv 2) pe_str) (pv 3)))
        (C8.pss_cut (ps_if (pt_cmpR (op_neD hr.units) (pv 4) (pe_tup (pa_cons pe_non pa_nil)) (nomark _))
          (pss_one (ps_set (i := 5) sc_law_text.nd rfl (Or.inl rfl) (pe_op op_add_str (pe_op op_add_str (pv 5) pe_str)
            (pe_join pe_str (pe_lc (own := [("one", 6)]) (g := gName 6) (tt := tYes) rfl sc_law_text.nd (pi_tup (pv 4)) (blkOk_by (N := n_law_text) (sc := defScope s_law_text) (by decide +kernel))
              (fun _ _ _ _ _ => pg_name (i := 6) sc_law_text.nd rfl (Or.inl rfl)) (fun _ _ _ _ _ => pts_nil)
              (fun _ _ _ _ _ => pe_ifExp (pt_cmpR op_isN (pv 6) pe_non (nomark _)) pe_str (pe_callTy call_str_int (by rfl) T0.str boot_str (pa_cons (pv 6) pa_nil)))))))) pss_nil)
        (pss_one (ps_expr (pe_bm PySem.F.plainAttrs_list PySem.F.slot_list_append PySem.F.type_list_append mt_append (pv 1) (pa_cons (pv 5) pa_nil)))))))
      (pss_one (ps_ret (pe_join pe_str (pv 1))))), ?_⟩
    refine ⟨Nat.zero_le _, fun l hl => ?_⟩
    have hlt : t ≠ l := ne_of_none ht hl
    refine ⟨_, rfl, t, rfl, ⟨_, SqT.of (by rw [upd_ne hlt]; exact ht)⟩, for_it (walk_tup (K := K) (a := t) (xs := as.map V.ref)) (fun i σ H' => ∃ (v2 v3 v4 v5 v6 : Option V), σ = [some (.ref t), some (.ref l), v2, v3, v4, v5, v6] ∧ Same H H' ∧
        H' l = some (.lst (((ns.take i).map (rowS false)).map V.str))) ⟨none, none, none, none, none, rfl, same_new hl, upd_same⟩ (fun i σ H' _ ⟨_, _, _, _, _, _, s, _⟩ => SqT.of (s _ _ ht)) ?_ ?_⟩
    · rintro i x σ H2 H3 hi ⟨v2, v3, v4, v5, v6, rfl, s2, hl2⟩ ⟨rfl, hx⟩
      rw [List.length_map, hin.1] at hi
      have hni : ns[i]? = some ns[i] := List.getElem?_eq_getElem hi
      have hai : i < as.length := by rw [hin.1]; exact hi
      have hasi : as[i]? = some as[i] := List.getElem?_eq_getElem hai
      rw [List.getElem?_map, hasi] at hx
      obtain rfl : V.ref as[i] = x := Option.some.inj hx
      have gn := g.all _ (List.getElem_mem hi)
      have hn8 := g.few
      obtain ⟨t', g1, g2⟩ := (hin.2 i _ _ hasi hni).same s2
      generalize hn : ns[i] = n at *
      have hw8 : n.word.length ≤ 8 := part_le gn (by omega) true n.word (by unfold rowW; rw [if_neg (by rintro ⟨h, _⟩; cases h)]; simp)
      have hc8 := (name_len gn.cell).2
      have hsp : sSp.length = 1 := by decide +kernel
      refine ⟨as[i], _, rfl, SqT.of g1, rfl, _, _, rfl, _, _, rfl, _, _, rfl, rfl, _, rfl, n.word, sSp, rfl, rfl, (by rw [hsp, sizeLine_eq]; omega), _, rfl, n.word ++ sSp, n.cell, rfl, rfl, (by rw [Str.length_append, hsp, sizeLine_eq]; omega), ?_⟩
      refine ⟨fun σ H' => ∃ v6, σ = [some (.ref t), some (.ref l), some (.str n.word), some (.str n.cell), some (.ref t'), some (.str (rowS false n)), v6] ∧ Same H3 H', ?_, ?_⟩
      · refine ⟨_, rfl, (by show 1 ≤ sizeLine; decide), fun q hq => ⟨.tuple (n.tg.map tgD), .tuple ([none].map tgD), .tup (SqT.of (by rw [upd_ne (ne_of_none g2 hq)]; exact g2)) (dp_tg _), .tup (SqT.of upd_same) (dp_tg [none]), shaped_tg _, shaped_tg _, _, rfl, ?_⟩⟩
        rw [eqv_tg]
        by_cases ht0 : n.tg = [none]
        · rw [decide_eq_true ht0]
          exact iteF ⟨v6, by rw [← row_bare ht0]; rfl, same_new hq⟩
        · rw [decide_eq_false ht0]
          have g2' : (upd H3 q (.tup [.non])) t' = some (.tup (n.tg.map tgV)) := by rw [upd_ne (ne_of_none g2 hq)]; exact g2
          refine iteT ⟨_, rfl, n.word ++ sSp ++ n.cell, sArr2, rfl, rfl, ?_, ⟨_, rfl⟩, _, rfl, t', rfl, ⟨_, SqT.of g2'⟩, fun D hD => lc_mp n.tg (walk_tup (K := K) (a := t') (xs := n.tg.map tgV) |> fun z => by rw [List.length_map] at z; exact z) hD
            (fun o => .str (tgS o)) ?_ (fun H5 s5 => SqT.of (s5 _ _ g2')) ?_ ?_⟩
          · have e2 : sArr2.length = 4 := by decide +kernel
            rw [Str.length_append, Str.length_append, hsp, e2, sizeLine_eq]
            omega
          · have := gn.tg.len
            omega
          · rintro j o x H5 H6 ho s5 ⟨rfl, hx⟩ R hR
            rw [List.getElem?_map, ho] at hx
            obtain rfl : tgV o = x := Option.some.inj hx
            refine ⟨rfl, ?_⟩
            cases o with
            | none => exact ⟨_, rfl, rfl, _, rfl, iteT (hR _ (Same.refl _))⟩
            | some j =>
              have hj := gn.tg.lt (List.mem_of_getElem? ho)
              exact ⟨_, rfl, rfl, _, rfl, iteF ⟨_, rfl, (j : Int), rfl, log2_small (by omega), hR _ (Same.refl _)⟩⟩
          · intro H5 s5 hL
            have htl := gn.tg.len
            have hz : ∀ z ∈ n.tg.map tgS, z.length ≤ 8 := fun z hz => part_le gn (by omega) true z (by
              unfold rowW
              rw [if_neg (by rintro ⟨h, _⟩; cases h)]
              exact List.mem_cons_of_mem _ (List.mem_cons_of_mem _ (List.mem_cons_of_mem _ hz)))
            have hsum := sum_le hz
            rw [List.length_map] at hsum
            refine ⟨sSp, D, n.tg.map tgS, rfl, rfl, .inl (SqL.of (by rw [hL, List.map_map]; rfl)), ?_, n.word ++ sSp ++ n.cell ++ sArr2, Txt.join sSp (n.tg.map tgS), rfl, rfl, ?_, v6, ?_, (same_new hq).trans s5⟩
            · rw [hsp, List.length_map]
              omega
            · have h1 := join_le (y := sSp) hz
              have e2 : sArr2.length = 4 := by decide +kernel
              rw [List.length_map, hsp] at h1
              rw [Str.length_append, Str.length_append, Str.length_append, hsp, e2, sizeLine_eq]
              omega
            · rw [row_full (f := false) (.inr ht0) gn.tg.ne]
              rfl
      · rintro σ H4 ⟨v6', rfl, s4⟩
        have hl4 := s4 _ _ hl2
        refine ⟨_, rfl, .inl ⟨rfl, _, SqL.of hl4⟩, _, rfl, l, _, _, rfl, rfl, hl4, ?_, ?_⟩
        · rw [List.length_map, List.length_map, List.length_take, sizeLine_eq]
          omega
        · refine ⟨_, _, _, _, _, rfl, same_upd (s2.trans s4) hl, ?_⟩
          rw [upd_same, List.take_add_one, hni, List.map_append, List.map_append]
          rfl
    · rintro σ H2 ⟨v2, v3, v4, v5, v6, rfl, s2, hl2⟩
      rw [List.length_map, hin.1, List.take_length] at hl2
      have hz : ∀ z ∈ ns.map (rowS false), z.length ≤ 600 := fun z hz => by
        obtain ⟨n, hn, rfl⟩ := List.mem_map.mp hz
        exact rowS_le (g.all n hn) (by have := g.few; omega) false
      have hsum := sum_le hz
      have h8 := g.few
      rw [List.length_map] at hsum
      refine ⟨⟨_, rfl⟩, _, rfl, sNl, l, ns.map (rowS false), rfl, rfl, .inl (SqL.of hl2), ?_, k H2 s2⟩
      have e1 : sNl.length = 1 := by decide +kernel
      rw [e1, List.length_map]
      omega
end
end Vf

set_option maxRecDepth 100000
set_option maxHeartbeats 8000000
namespace Vf
open PySem PySem.Spec PyProof.Rows L2
theorem natV_int (ks : List Nat) : natV ks = (ks.map Int.ofNat).map V.int := natV_of ks
theorem natV_tg (ks : List Nat) : natV ks = (ks.map some).map tgV := by
  unfold natV
  rw [List.map_map]
  rfl
theorem cellKv_keys (cs : List (Str × Nat)) : ((cellKv cs).map fun kv => kV kv.1) = (cs.map Prod.fst).map V.str := by
  unfold cellKv
  rw [List.map_map, List.map_map]
  rfl
theorem rises_ins {ks : List Nat} {k many : Nat} {ns : List Int} (h : rises ks = true) (hk : k ∉ ks) (hlt : ∀ j ∈ ks, j < many) (hkm : k < many) (hp : ns.Perm (ks.map Int.ofNat ++ [(k : Int)])) (hs : ns.Pairwise (· ≤ ·)) :
    ∃ ks' : List Nat, ns = ks'.map Int.ofNat ∧ rises ks' = true ∧ ∀ j ∈ ks', j < many := by
  have mem : ∀ x ∈ ns, ∃ j : Nat, x = (j : Int) ∧ (j ∈ ks ∨ j = k) := fun x hx => by
    rcases List.mem_append.mp (hp.mem_iff.mp hx) with q | q
    · obtain ⟨j, hj, rfl⟩ := List.mem_map.mp q
      exact ⟨j, rfl, .inl hj⟩
    · exact ⟨k, List.mem_singleton.mp q, .inr rfl⟩
  have e : ns = (ns.map Int.toNat).map Int.ofNat := by
    rw [List.map_map]
    conv => lhs; rw [← List.map_id ns]
    refine List.map_congr_left fun x hx => ?_
    obtain ⟨j, rfl, _⟩ := mem x hx
    rfl
  have nd : ns.Nodup := by
    refine hp.nodup_iff.mpr ?_
    have e2 : ks.map Int.ofNat ++ [(k : Int)] = (ks ++ [k]).map Int.ofNat := by rw [List.map_append]; rfl
    rw [e2]
    refine List.Pairwise.map _ (fun a b (q : a ≠ b) z => q (Int.ofNat_inj.mp z)) ?_
    refine List.nodup_append.mpr ⟨((rises_iff ks).mp h).imp fun q => Nat.ne_of_lt q, List.nodup_cons.mpr ⟨by simp, List.nodup_nil⟩, fun a ha b hb z => ?_⟩
    rw [List.mem_singleton.mp hb] at z
    exact hk (z ▸ ha)
  refine ⟨ns.map Int.toNat, e, ?_, fun j hj => ?_⟩
  · rw [rises_iff, List.pairwise_map]
    refine (hs.and nd).imp_of_mem fun {a b} ha hb q => ?_
    obtain ⟨i, rfl, _⟩ := mem a ha
    obtain ⟨j, rfl, _⟩ := mem b hb
    have q1 : (i : Int) ≤ j := q.1
    have q2 : (i : Int) ≠ j := q.2
    show i < j
    omega
  · obtain ⟨x, hx, rfl⟩ := List.mem_map.mp hj
    obtain ⟨i, rfl, hi⟩ := mem x hx
    rcases hi with hi | rfl
    · exact hlt i hi
    · exact hkm
theorem eqv_list_tg (a b : List (Option Nat)) : PyData.eqv (.list (a.map tgD)) (.list (b.map tgD)) = decide (a = b) :=
  eqv_dec (by simp only [plainD, plain_tg]) (by simp only [plainD, plain_tg]) ⟨fun h => map_tgD_inj (PyData.list.inj h), fun h => by rw [h]⟩
theorem shaped_list_tg (tg : List (Option Nat)) : SeqAt.shaped (.list (tg.map tgD)) = true :=
  shaped_of (by simp only [plainD, plain_tg]) (by simp only [PyData.depth, depth_tg]; decide)
/-- behind H, while only the draws at p have changed: the list at l holds the nodes ns, as told by as -/
structure Mid3 (H : Hp) (p l : Addr) (as : List Addr) (ns : List Nd) (H' : Hp) : Prop where
  b : But p H H'
  f : FeedAt H' p
  l : H' l = some (.lst (as.map V.ref))
  n : NodesIn H' as ns
theorem Mid3.but {H : Hp} {p l : Addr} {as : List Addr} {ns : List Nd} {H2 H3 : Hp} (m : Mid3 H p l as ns H2) (b : But p H2 H3) (f : FeedAt H3 p) (hpl : p ≠ l) : Mid3 H p l as ns H3 :=
  ⟨m.b.trans b, f, b _ _ hpl.symm m.l, m.n.1, fun i a n h1 h2 => (m.n.2 i a n h1 h2).but b (let ⟨_, _, e, _⟩ := m.f; ⟨_, e⟩)⟩
theorem Mid3.same {H : Hp} {p l : Addr} {as : List Addr} {ns : List Nd} {H2 H3 : Hp} (m : Mid3 H p l as ns H2) (s : Same H2 H3) (hpl : p ≠ l) : Mid3 H p l as ns H3 := m.but (Same.but s) (m.f.same s) hpl
/-- new behind what the draws alone have changed: new before -/
theorem But.free {p o : Addr} {H H' : Hp} (b : But p H H') (f : FeedAt H' p) (h : H' o = none) : H o = none := by
  cases e : H o with
  | none => rfl
  | some u =>
    by_cases hop : o = p
    · rw [hop] at h
      obtain ⟨d, st, g, _⟩ := f
      rw [g] at h
      cases h
    · rw [b _ _ hop e] at h
      cases h
section
variable {P : Program} {w : World} {K : PySem.W.Frag} {mg : Str → Option Value} {base : Heap}
def sp_law_nodes (K : PySem.W.Frag) : Sp := fun vs H Q _ => ∃ (p c : Addr) (cs : List (Str × Nat)) (most : Nat), vs = [.ref p, .ref c, .int (most : Int)] ∧ FeedAt H p ∧ H c = some (.dK (cellKv cs)) ∧ GoodCs cs ∧ 1 ≤ most ∧ most ≤ 8 ∧
  ∀ (t : Addr) (ns : List Nd) H', But p H H' → FeedAt H' p → H t = none → NodesAt H' t ns → Good ns → (∀ n ∈ ns, n.cell ∈ cs.map Prod.fst) → Q (.ref t) H'
theorem ok_law_nodes {f : Addr} {fd : FuncData} (F : Fun K "_law_nodes" "_law_nodes" s_law_nodes f fd) (T0 : Txt0 K mg) (GT : OkF P w K mg base CX0 "_law_take" p_law_take 1 sp_law_take) (GP : OkF P w K mg base CX0 "_law_pick" p_law_pick 2 (sp_law_pick K)) :
    FnOk P w K mg base CX0 3 f fd p_law_nodes (sp_law_nodes K) := by
  refine F.ok sc_law_nodes (fun vs H Q E h => ?_) (fun cdv A outer s H vs Q E hr h => ?_)
  · obtain ⟨p, c, cs, most, rfl, _⟩ := h
    rfl
  · obtain ⟨p, c, cs, most, rfl, hp, hS, g, hm1, hm8, k⟩ := h
    have hr1 : Room 1 _ := hr.mono (by decide)
    have hpc : p ≠ c := by
      obtain ⟨x, y, g1, _⟩ := hp
      exact ne_of g1 hS (by intro z; cases z)
    refine ⟨_, pss_cons (ps_par (i := 3) (j := 4) rfl sc_law_nodes.nd rfl rfl (by decide) rfl rfl (pa_cons (pe_op op_add pe_int (pe_fn GT hr1 rfl pass0 (pa_cons (pv 0) (pa_cons (pv 2) pa_nil)))) (pa_cons (pe_lst pa_nil) pa_nil)) (by rfl))
      (pss_cons (ps_for PassesOwn.never rfl (pi_range1 (by rfl) T0.range (pa_cons (pv 3) pa_nil)) (pg_name (i := 5) sc_law_nodes.nd rfl (Or.inl rfl))
        (C8.pss_cut (ps_setLc (i := 6) (own := [("one", 8)]) (g := gName 8) rfl sc_law_nodes.nd rfl rfl (sw_true rfl rfl rfl (by decide +kernel)) (pi_range1 (by rfl) T0.range (pa_cons (pv 3) pa_nil)) (blkOk_by (N := n_law_nodes) (sc := defScope s_law_nodes) (by decide +kernel))
              (fun _ _ _ _ _ => pg_name (i := 8) sc_law_nodes.nd rfl (Or.inl rfl)) (fun _ _ _ _ _ => pts_one (pt_cmpR op_eq (pe_fn GT hr1 rfl pass0 (pa_cons (pv 0) (pa_cons pe_int pa_nil))) pe_int (nomark _)))
              (fun _ _ _ _ _ => pv 8))
        (C8.pss_cut (ps_if (PW.pt (pw_and (pt_cmpR op_eq (pe_fn GT hr1 rfl pass0 (pa_cons (pv 0) (pa_cons pe_int pa_nil))) pe_int (nomark _))
              (pw_and (pt_cmpR op_lt (pe_op op_add (pv 5) pe_int) (pv 3) (nomark _)) (pw_and1 (pt_cmpR op_notIn_seq (pe_op op_add (pv 5) pe_int) (pv 6) rfl)))))
            (pss_one (ps_set (i := 6) sc_law_nodes.nd rfl (Or.inl rfl) (pe_callB cr_sorted (by rfl) T0.sorted (by decide +kernel) (pa_cons (pe_op op_cat (pv 6) (pe_lst (pa_cons (pe_op op_add (pv 5) pe_int) pa_nil))) pa_nil)))) pss_nil)
        (C8.pss_cut (ps_if (PW.pt (pw_or (pt_cmpR (op_eqD hr.units) (pv 6) (pe_lst pa_nil) (nomark _)) (pw_or1 (pt_cmpR op_eq (pe_fn GT hr1 rfl pass0 (pa_cons (pv 0) (pa_cons pe_int pa_nil))) pe_int (nomark _)))))
            (pss_one (ps_set (i := 6) sc_law_nodes.nd rfl (Or.inl rfl) (pe_op op_cat (pv 6) (pe_lst (pa_cons pe_non pa_nil))))) pss_nil)
        (pss_cons (ps_set (i := 7) sc_law_nodes.nd rfl (Or.inl rfl) (pe_fn GP hr rfl pass0 (pa_cons (pv 0) (pa_cons (pe_lst (pa_cons pe_str (pa_cons pe_str (pa_cons pe_str pa_nil)))) pa_nil))))
        (pss_one (ps_expr (pe_bm PySem.F.plainAttrs_list PySem.F.slot_list_append PySem.F.type_list_append mt_append (pv 4) (pa_cons
          (pe_tup (pa_cons (pv 7) (pa_cons (pe_fn GP hr rfl pass0 (pa_cons (pv 0) (pa_cons (pe_callTy (call_listD rfl) (by rfl) T0.list (by decide +kernel) (pa_cons (pv 1) pa_nil)) pa_nil))) (pa_cons (pe_callTy call_tuple_of (by rfl) T0.tuple (by decide +kernel) (pa_cons (pv 6) pa_nil)) pa_nil)))) pa_nil)))))))))
      (pss_one (ps_ret (pe_callTy call_tuple_of (by rfl) T0.tuple (by decide +kernel) (pa_cons (pv 4) pa_nil))))), ?_⟩
    refine ⟨_, rfl, _, rfl, p, most, rfl, hp, hm1, by omega, fun m H1 hm b1 f1 => ⟨1, m, rfl, rfl, Nat.zero_le _, fun l hl => ⟨_, _, rfl, ?_⟩⟩⟩
    have hl0 := b1.free f1 hl
    have hpl : p ≠ l := hp.ne hl0
    have em : (1 + (m : Int)).toNat = 1 + m := by omega
    refine ⟨_, rfl, _, rfl, by omega, by omega, ?_⟩
    rw [em]
    refine for_it (walk_range (lo := 0) (n := 1 + m)) (fun i σ H' => ∃ (as : List Addr) (ns : List Nd) (v5 v6 v7 v8 : Option V), σ = [some (.ref p), some (.ref c), some (.int (most : Int)), some (.int (1 + (m : Int))), some (.ref l), v5, v6, v7, v8] ∧
        Mid3 H p l as ns H' ∧ ns.length = i ∧ ∀ n ∈ ns, GoodNd (1 + m) n ∧ n.cell ∈ cs.map Prod.fst)
      ⟨[], [], none, none, none, none, rfl, ⟨b1.new hl0, f1.put hpl, upd_same, rfl, fun i a n h => by simp at h⟩, rfl, fun n h => by cases h⟩ (fun _ _ _ _ _ => trivial) ?_ ?_
    · rintro i x σ H2 H3 hi ⟨as, ns, v5, v6, v7, v8, rfl, md, hns, hgood⟩ ⟨rfl, rfl⟩
      refine ⟨fun σ H' => ∃ (q : Addr) (ks : List Nat) (v7 v8 : Option V), σ = [some (.ref p), some (.ref c), some (.int (most : Int)), some (.int (1 + (m : Int))), some (.ref l), some (.int (0 + (i : Int))), some (.ref q), v7, v8] ∧
        Mid3 H p l as ns H' ∧ H' q = some (.lst (natV ks)) ∧ p ≠ q ∧ l ≠ q ∧ rises ks = true ∧ ∀ k ∈ ks, k < 1 + m, ?_, ?_⟩
      · refine ⟨_, rfl, _, rfl, by omega, by omega, fun D hD => ?_⟩
        rw [em]
        have hpD : p ≠ D := md.f.ne hD
        have hlD : l ≠ D := ne_of_none md.l hD
        refine lc_it (walk_range (lo := 0) (n := 1 + m)) (fun j H' => But p H3 H' ∧ FeedAt H' p ∧ ∃ ks : List Nat, H' D = some (.lst (natV ks)) ∧ rises ks = true ∧ ks.length ≤ j ∧ ∀ k ∈ ks, k < j)
          ⟨(But.refl p H3).new hD, md.f.put hpD, [], upd_same, rfl, Nat.le_refl _, fun k h => by cases h⟩ (fun _ _ _ _ => trivial) ?_ ?_
        · rintro j x H4 H5 hj ⟨b4, f4, ks, hks, hri, hlen, hlt⟩ ⟨rfl, rfl⟩
          refine ⟨rfl, _, rfl, p, 4, rfl, f4, by decide, by decide, fun r H6 hr6 b6 f6 => ⟨rfl, _, rfl, ?_⟩⟩
          have hks6 := b6 _ _ hpD.symm hks
          by_cases hr0 : r = 0
          · subst hr0
            refine iteT ⟨_, rfl, natV ks, hks6, ?_, (b4.trans b6).new hD, f6.put hpD, ks ++ [j], ?_, ?_, ?_, ?_⟩
            · unfold natV
              rw [List.length_map, sizeLine_eq]
              omega
            · rw [upd_same]
              show some (HO.lst (natV ks ++ [.int (0 + (j : Int))])) = _
              rw [Int.zero_add]
              unfold natV
              rw [List.map_append]
              rfl
            · rw [rises_iff] at hri ⊢
              refine List.pairwise_append.mpr ⟨hri, List.pairwise_singleton _ _, fun a ha b hb => ?_⟩
              rw [List.mem_singleton.mp hb]
              exact hlt a ha
            · rw [List.length_append, List.length_singleton]
              omega
            · intro a ha
              rcases List.mem_append.mp ha with ha | ha
              · have := hlt a ha
                omega
              · rw [List.mem_singleton.mp ha]
                omega
          · rw [decide_eq_false (p := V.int (r : Int) = V.int 0) (fun e => hr0 (by have := V.int.inj e; omega))]
            exact iteF ⟨b4.trans b6, f6, ks, hks6, hri, by omega, fun a ha => by have := hlt a ha; omega⟩
        · rintro H4 ⟨b4, f4, ks, hks, hri, hlen, hlt⟩
          exact ⟨D, ks, v7, v8, rfl, md.but b4 f4 hpl, hks, hpD, hlD, hri, hlt⟩
      rintro σ H4 ⟨q, ks, v7', v8', rfl, md4, hq, hpq, hlq, hri, hlt⟩
      have hkl : ks.length ≤ 8 := by
        have := rises_le hri hlt
        omega
      refine ⟨fun σ H' => ∃ (q : Addr) (ks : List Nat) (v7 v8 : Option V), σ = [some (.ref p), some (.ref c), some (.int (most : Int)), some (.int (1 + (m : Int))), some (.ref l), some (.int (0 + (i : Int))), some (.ref q), v7, v8] ∧
        Mid3 H p l as ns H' ∧ H' q = some (.lst (natV ks)) ∧ p ≠ q ∧ l ≠ q ∧ rises ks = true ∧ ∀ k ∈ ks, k < 1 + m, ?_, ?_⟩
      · refine ⟨_, rfl, p, 2, rfl, md4.f, by decide, by decide, fun r H5 hr5 b5 f5 => ⟨rfl, _, rfl, ?_⟩⟩
        have md5 := md4.but b5 f5 hpl
        have hq5 := b5 _ _ hpq.symm hq
        by_cases hr0 : r = 0
        case neg =>
          rw [decide_eq_false (p := V.int (r : Int) = V.int 0) (fun e => hr0 (by have := V.int.inj e; omega))]
          exact iteF (iteF ⟨q, ks, v7', v8', rfl, md5, hq5, hpq, hlq, hri, hlt⟩)
        subst hr0
        refine iteT ⟨_, rfl, _, _, rfl, rfl, _, rfl, _, _, rfl, rfl, _, rfl, ?_⟩
        by_cases hi1 : 0 + (i : Int) + 1 < 1 + (m : Int)
        case neg =>
          rw [decide_eq_false hi1]
          exact iteF (iteF ⟨q, ks, v7', v8', rfl, md5, hq5, hpq, hlq, hri, hlt⟩)
        rw [decide_eq_true hi1]
        refine iteT ⟨_, rfl, _, _, rfl, rfl, _, rfl, q, _, rfl, .inl (SqL.of hq5), rfl, ?_, _, rfl, ?_⟩
        · unfold natV
          rw [List.all_map, List.all_eq_true]
          intro _ _
          rfl
        have ei : (0 + (i : Int) + 1) = ((i + 1 : Nat) : Int) := by omega
        show if (if true = true then !inV (.int (0 + (i : Int) + 1)) (natV ks) else _) = true then _ else _
        rw [if_pos rfl, ei, inV_nat]
        by_cases hmem : i + 1 ∈ ks
        · rw [decide_eq_true hmem]
          exact iteF (⟨q, ks, v7', v8', rfl, md5, hq5, hpq, hlq, hri, hlt⟩)
        rw [decide_eq_false hmem]
        refine iteT ⟨_, rfl, _, rfl, _, _, rfl, rfl, (by show 1 ≤ sizeLine; decide), fun o1 ho1 => ?_⟩
        have hqo : q ≠ o1 := ne_of_none hq5 ho1
        refine ⟨q, o1, natV ks, [.int (0 + (i : Int) + 1)], rfl, rfl, by rw [upd_ne hqo]; exact hq5, upd_same, ?_, fun o2 ho2 => ?_⟩
        · unfold natV
          rw [List.length_map, sizeLine_eq]
          show ks.length + 1 ≤ _
          omega
        refine ⟨o2, ks.map Int.ofNat ++ [((i + 1 : Nat) : Int)], rfl, SqL.of ?_, ?_, fun ns' o3 hperm hsort ho3 => ?_⟩
        · rw [upd_same, List.map_append, ← natV_int, ← ei]
          rfl
        · rw [List.length_append, List.length_map]
          show ks.length + 1 < 64
          omega
        obtain ⟨ks', rfl, hri', hlt'⟩ := rises_ins hri hmem hlt (by omega) hperm hsort
        have s53 := ((same_new (o := .lst [.int (0 + (i : Int) + 1)]) ho1).trans (same_new (o := .lst (natV ks ++ [.int (0 + (i : Int) + 1)])) ho2)).trans (same_new (o := .lst ((ks'.map Int.ofNat).map V.int)) ho3)
        have ho35 := Same.free ((same_new (o := .lst [.int (0 + (i : Int) + 1)]) ho1).trans (same_new (o := .lst (natV ks ++ [.int (0 + (i : Int) + 1)])) ho2)) ho3
        exact ⟨o3, ks', v7', v8', rfl, md5.same s53 hpl, by rw [upd_same, natV_int], md5.f.ne ho35, ne_of_none md5.l ho35, hri', hlt'⟩
      rintro σ H5 ⟨q5, ks5, v75, v85, rfl, md5, hq5, hpq5, hlq5, hri5, hlt5⟩
      have hkl5 : ks5.length ≤ 8 := by
        have := rises_le hri5 hlt5
        omega
      refine ⟨fun σ H' => ∃ (q : Addr) (tg : List (Option Nat)) (v7 v8 : Option V), σ = [some (.ref p), some (.ref c), some (.int (most : Int)), some (.int (1 + (m : Int))), some (.ref l), some (.int (0 + (i : Int))), some (.ref q), v7, v8] ∧
        Mid3 H p l as ns H' ∧ H' q = some (.lst (tg.map tgV)) ∧ p ≠ q ∧ l ≠ q ∧ GoodTg (1 + m) tg, ?_, ?_⟩
      · refine ⟨_, rfl, Nat.zero_le _, fun o1 ho1 => ?_⟩
        have s6 := same_new (o := .lst []) ho1
        have md6 := md5.same s6 hpl
        have hq6 := s6 _ _ hq5
        refine ⟨.list ((ks5.map some).map tgD), .list (([] : List (Option Nat)).map tgD), .lst (SqL.of (by rw [hq6, natV_tg])) (dp_tg _), .lst (SqL.of upd_same) (dp_tg []), shaped_list_tg _, shaped_list_tg _, _, rfl, ?_⟩
        rw [eqv_list_tg]
        have addNone : ∀ H7, Mid3 H p l as ns H7 → H7 q5 = some (.lst (natV ks5)) → ∀ o1 o2, H7 o1 = none → (upd H7 o1 (.lst [.non])) o2 = none → Mid3 H p l as ns (upd (upd H7 o1 (.lst [.non])) o2 (.lst (natV ks5 ++ [.non]))) ∧
            (upd (upd H7 o1 (.lst [.non])) o2 (.lst (natV ks5 ++ [.non]))) o2 = some (.lst ((ks5.map some ++ [none]).map tgV)) ∧ p ≠ o2 ∧ l ≠ o2 ∧ GoodTg (1 + m) (ks5.map some ++ [none]) := by
          intro H7 md7 hq7 o1 o2 ho1 ho2
          have ho27 := Same.free (same_new (o := .lst [.non]) ho1) ho2
          refine ⟨md7.same ((same_new ho1).trans (same_new ho2)) hpl, by rw [upd_same, List.map_append, natV_tg]; rfl, md7.f.ne ho27, ne_of_none md7.l ho27, by simp, ks5, true, rfl, hri5, hlt5⟩
        by_cases hk0 : ks5.map some = []
        · rw [decide_eq_true hk0]
          refine iteT (iteT ⟨_, rfl, (by show 1 ≤ sizeLine; decide), fun o2 ho2 => ⟨q5, o2, natV ks5, [.non], rfl, rfl, by rw [upd_ne (ne_of_none hq6 ho2)]; exact hq6, upd_same, ?_, fun o3 ho3 => ?_⟩⟩)
          · unfold natV
            rw [List.length_map, sizeLine_eq]
            show ks5.length + 1 ≤ _
            omega
          · obtain ⟨m1, m2, m3, m4, m5⟩ := addNone _ md6 hq6 o2 o3 ho2 ho3
            exact ⟨o3, ks5.map some ++ [none], v75, v85, rfl, m1, m2, m3, m4, m5⟩
        · rw [decide_eq_false hk0]
          refine iteF ⟨_, rfl, p, 4, rfl, md6.f, by decide, by decide, fun r H7 hr7 b7 f7 => ⟨rfl, _, rfl, ?_⟩⟩
          have md7 := md6.but b7 f7 hpl
          have hq7 := b7 _ _ hpq5.symm hq6
          by_cases hr0 : r = 0
          · subst hr0
            refine iteT ⟨_, rfl, (by show 1 ≤ sizeLine; decide), fun o2 ho2 => ⟨q5, o2, natV ks5, [.non], rfl, rfl, by rw [upd_ne (ne_of_none hq7 ho2)]; exact hq7, upd_same, ?_, fun o3 ho3 => ?_⟩⟩
            · unfold natV
              rw [List.length_map, sizeLine_eq]
              show ks5.length + 1 ≤ _
              omega
            · obtain ⟨m1, m2, m3, m4, m5⟩ := addNone _ md7 hq7 o2 o3 ho2 ho3
              exact ⟨o3, ks5.map some ++ [none], v75, v85, rfl, m1, m2, m3, m4, m5⟩
          · rw [decide_eq_false (p := V.int (r : Int) = V.int 0) (fun e => hr0 (by have := V.int.inj e; omega))]
            exact iteF (⟨q5, ks5.map some, v75, v85, rfl, md7, by rw [hq7, natV_tg], hpq5, hlq5, hk0, ks5, false, by simp, hri5, hlt5⟩)
      rintro σ H6 ⟨q6, tg, v76, v86, rfl, md6, hq6, hpq6, hlq6, hgt⟩
      refine ⟨_, rfl, (by show 3 ≤ sizeLine; decide), fun o1 ho1 => ?_⟩
      have s7 := same_new (o := .lst [.str "read", .str "write", .str "write"]) ho1
      refine ⟨p, o1, _, rfl, md6.f.same s7, md6.f.ne ho1, SqL.of upd_same, by decide, by decide, fun r v H8 hv b8 f8 => ?_⟩
      have md8 := (md6.same s7 hpl).but b8 f8 hpl
      have hq8 := b8 _ _ hpq6.symm (s7 _ _ hq6)
      obtain ⟨wd, rfl, hwd⟩ : ∃ wd : Str, v = .str wd ∧ (wd = sRead ∨ wd = sWrite) := by
        match r, hv with
        | 0, e => exact ⟨sRead, (Option.some.inj e).symm, .inl rfl⟩
        | 1, e => exact ⟨sWrite, (Option.some.inj e).symm, .inr rfl⟩
        | 2, e => exact ⟨sWrite, (Option.some.inj e).symm, .inr rfl⟩
        | _ + 3, e => cases e
      refine ⟨_, rfl, .inl ⟨rfl, _, SqL.of md8.l⟩, _, rfl, _, rfl, _, rfl, c, _, rfl, .inl (md8.b _ _ hpc.symm hS), fun o2 ho2 => ?_⟩
      rw [cellKv_keys] at *
      have s9 := same_new (o := .lst ((cs.map Prod.fst).map V.str)) ho2
      refine ⟨p, o2, _, rfl, md8.f.same s9, md8.f.ne ho2, SqL.of upd_same, ?_, ?_, fun r2 v2 H9 hv2 b9 f9 => ?_⟩
      · rw [List.length_map, List.length_map]
        exact List.length_pos_iff.mpr g.some
      · rw [List.length_map, List.length_map]
        have := g.few
        omega
      have md9 := (md8.same s9 hpl).but b9 f9 hpl
      have hq9 := b9 _ _ hpq6.symm (s9 _ _ hq8)
      obtain ⟨z, rfl, hz⟩ : ∃ z : Str, v2 = .str z ∧ z ∈ cs.map Prod.fst := by
        rw [List.getElem?_map] at hv2
        cases e : (cs.map Prod.fst)[r2]? with
        | none => rw [e] at hv2; cases hv2
        | some z =>
          rw [e] at hv2
          exact ⟨z, (Option.some.inj hv2).symm, List.mem_of_getElem? e⟩
      have hnames : ∀ z ∈ cs.map Prod.fst, isNameT z = true := fun z hz => by
        obtain ⟨c, hc, rfl⟩ := List.mem_map.mp hz
        exact g.name c hc
      refine ⟨_, rfl, q6, _, rfl, .inl ⟨SqL.of hq9, fun t1 ht1 => ⟨(by show 3 ≤ sizeLine; decide), fun a ha => ?_⟩⟩⟩
      have s10 := (same_new (o := .tup (tg.map tgV)) ht1).trans (same_new (o := .tup [.str wd, .str z, .ref t1]) ha)
      have md10 := md9.same s10 hpl
      have hta : t1 ≠ a := fun e => by
        rw [← e, upd_same] at ha
        cases ha
      have hna : NodeAt (upd (upd H9 t1 (.tup (tg.map tgV))) a (.tup [.str wd, .str z, .ref t1])) a ⟨wd, z, tg⟩ := ⟨t1, upd_same, by rw [upd_ne hta, upd_same]⟩
      refine ⟨l, _, _, rfl, rfl, md10.l, ?_, ?_⟩
      · rw [List.length_map, md10.n.1, hns, sizeLine_eq]
        omega
      · refine ⟨as ++ [a], ns ++ [⟨wd, z, tg⟩], _, _, _, _, rfl, ⟨md10.b.new hl0, md10.f.put hpl, by rw [upd_same, List.map_append]; rfl, by rw [List.length_append, List.length_append, md10.n.1]; rfl, fun j b' n' hj hm' => ?_⟩, by rw [List.length_append, hns]; rfl, fun n' hn' => ?_⟩
        · have hbut : But l (upd (upd H9 t1 (.tup (tg.map tgV))) a (.tup [.str wd, .str z, .ref t1])) (upd (upd (upd H9 t1 (.tup (tg.map tgV))) a (.tup [.str wd, .str z, .ref t1])) l (.lst (as.map V.ref ++ [.ref a]))) := (But.refl _ _).put
          by_cases hj' : j < as.length
          · rw [List.getElem?_append_left hj'] at hj
            rw [List.getElem?_append_left (by rw [← md10.n.1]; exact hj')] at hm'
            exact (md10.n.2 j b' n' hj hm').but hbut ⟨_, md10.l⟩
          · have ej : j = as.length := by
              have := (List.getElem?_eq_some_iff.mp hj).1
              rw [List.length_append, List.length_singleton] at this
              omega
            subst ej
            rw [List.getElem?_append_right (Nat.le_refl _), Nat.sub_self] at hj
            rw [md10.n.1, List.getElem?_append_right (Nat.le_refl _), Nat.sub_self] at hm'
            obtain rfl : a = b' := by simpa using hj
            obtain rfl : (⟨wd, z, tg⟩ : Nd) = n' := by simpa using hm'
            exact hna.but hbut ⟨_, md10.l⟩
        · rcases List.mem_append.mp hn' with h | h
          · exact hgood n' h
          · rw [List.mem_singleton.mp h]
            exact ⟨⟨hwd, hnames z hz, hgt⟩, hz⟩
    · rintro σ H2 ⟨as, ns, v5, v6, v7, v8, rfl, md, hns, hgood⟩
      refine ⟨_, rfl, l, _, rfl, .inl ⟨SqL.of md.l, fun t ht => ?_⟩⟩
      have ht0 := md.b.free md.f ht
      refine k t ns _ (md.b.new ht0) (md.f.put (hp.ne ht0)) ht0 ⟨as, upd_same, md.n.same (same_new ht)⟩ ⟨by omega, fun e => ?_, ?_⟩ fun n hn => (hgood n hn).2
      · rw [e] at hns
        have : 0 = 1 + m := hns
        omega
      · rw [hns]
        exact fun n hn => (hgood n hn).1
end
end Vf

set_option maxRecDepth 100000
set_option maxHeartbeats 8000000
namespace Vf
open PySem PySem.Spec PyProof.Rows L2
def mg1 : List Str := ["x", "y", "z", "w", "v", "u"]
def mg2 : List Str := ["b", "abcdefgh", "jk", "a", "aa", "c"]
def mg3 : List Str := ["end", "q", "read", "m", "write", "o"]
theorem mg1_ok : mg1.Nodup ∧ ∀ z ∈ mg1, isNameT z = true := ⟨by decide +kernel, List.all_eq_true.mp (show mg1.all isNameT = true by decide +kernel)⟩
theorem mg2_ok : mg2.Nodup ∧ ∀ z ∈ mg2, isNameT z = true := ⟨by decide +kernel, List.all_eq_true.mp (show mg2.all isNameT = true by decide +kernel)⟩
theorem mg3_ok : mg3.Nodup ∧ ∀ z ∈ mg3, isNameT z = true := ⟨by decide +kernel, List.all_eq_true.mp (show mg3.all isNameT = true by decide +kernel)⟩
theorem val_no {κ : Type} [DecidableEq κ] {kvs : List (κ × V)} {k : κ} (h : k ∉ kvs.map Prod.fst) : valV kvs k = none := by
  have e := valV_any (kvs := kvs) (k := k)
  cases hv : valV kvs k with
  | none => rfl
  | some v =>
    rw [hv] at e
    obtain ⟨p, hp, hk⟩ := List.any_eq_true.mp (e.trans rfl)
    exact absurd (List.mem_map.mpr ⟨p, hp, of_decide_eq_true hk⟩) h
section
variable {P : Program} {w : World} {K : PySem.W.Frag} {mg : Str → Option Value} {base : Heap}
def sp_law_cells : Sp := fun vs H Q _ => ∃ (p : Addr) (m : Nat), vs = [.ref p, .int (m : Int)] ∧ FeedAt H p ∧ 1 ≤ m ∧ m ≤ 6 ∧ ∀ (d : Addr) (cs : List (Str × Nat)) H', But p H H' → FeedAt H' p → H d = none → H' d = some (.dK (cellKv cs)) → GoodCs cs → Q (.ref d) H'
theorem ok_law_cells {f : Addr} {fd : FuncData} (F : Fun K "_law_cells" "_law_cells" s_law_cells f fd) (T : Txt0 K mg) (GT : OkF P w K mg base CX0 "_law_take" p_law_take 1 sp_law_take) (GP : OkF P w K mg base CX0 "_law_pick" p_law_pick 2 (sp_law_pick K)) :
    FnOk P w K mg base CX0 3 f fd p_law_cells sp_law_cells := by
  refine F.ok sc_law_cells (fun vs H Q E h => ?_) (fun cdv A outer s H vs Q E hr h => ?_)
  · obtain ⟨p, m, rfl, _⟩ := h
    rfl
  · obtain ⟨p, m, rfl, hp, m1, m6, k⟩ := h
    have hr1 : Room 1 _ := hr.mono (by decide)
    refine ⟨_, pss_cons (ps_set (i := 2) sc_law_cells.nd rfl (Or.inl rfl) (pe_lst (pa_cons (pe_lst (pa_cons pe_str (pa_cons pe_str (pa_cons pe_str (pa_cons pe_str (pa_cons pe_str (pa_cons pe_str pa_nil))))))) (pa_cons (pe_lst (pa_cons pe_str (pa_cons pe_str (pa_cons pe_str (pa_cons pe_str (pa_cons pe_str (pa_cons pe_str pa_nil))))))) pa_nil))))
      (C8.pss_cut (ps_set (i := 3) sc_law_cells.nd rfl (Or.inl rfl) (pe_fn GP hr rfl pass0 (pa_cons (pv 0) (pa_cons (pe_op op_cat (pv 2) (pe_lst (pa_cons (pe_lst (pa_cons pe_str (pa_cons pe_str (pa_cons pe_str (pa_cons pe_str (pa_cons pe_str (pa_cons pe_str pa_nil))))))) pa_nil))) pa_nil))))
      (pss_cons (ps_set (i := 4) sc_law_cells.nd rfl (Or.inl rfl) pe_dnewK)
      (pss_cons (ps_for PassesOwn.never rfl (pi_list (pe_slice sl_list (pv 3) po_none (po_some (pe_op op_add pe_int (pe_fn GT hr1 rfl pass0 (pa_cons (pv 0) (pa_cons (pv 1) pa_nil))))))) (pg_name (i := 5) sc_law_cells.nd rfl (Or.inl rfl))
        (pss_one (ps_asg (pe_op op_add pe_int (pe_fn GT hr1 rfl pass0 (pa_cons (pv 0) (pa_cons (pe_fn GP hr rfl pass0 (pa_cons (pv 0) (pa_cons (pe_lst (pa_cons pe_int (pa_cons pe_int (pa_cons pe_int pa_nil)))) pa_nil))) pa_nil)))) (pg_sub (pv 4) (pv 5) (set_dict (hu_of hr))))))
      (pss_one (ps_ret (pv 4)))))), ?_⟩
    refine ⟨(by show 6 ≤ sizeLine; decide), fun a1 h1 => ⟨(by show 6 ≤ sizeLine; decide), fun a2 h2 => ⟨(by show 2 ≤ sizeLine; decide), fun a3 h3 => ?_⟩⟩⟩
    have g1 : ([.str "x", .str "y", .str "z", .str "w", .str "v", .str "u"] : List V) = mg1.map V.str := rfl
    have g2 : ([.str "b", .str "abcdefgh", .str "jk", .str "a", .str "aa", .str "c"] : List V) = mg2.map V.str := rfl
    have g3 : ([.str "end", .str "q", .str "read", .str "m", .str "write", .str "o"] : List V) = mg3.map V.str := rfl
    rw [g1, g2]
    have s3 : Same H (upd (upd (upd H a1 (.lst (mg1.map V.str))) a2 (.lst (mg2.map V.str))) a3 (.lst [.ref a1, .ref a2])) := (same_new (o := .lst (mg1.map V.str)) h1).trans ((same_new (o := .lst (mg2.map V.str)) h2).trans (same_new (o := .lst [.ref a1, .ref a2]) h3))
    have e1 : (upd (upd (upd H a1 (.lst (mg1.map V.str))) a2 (.lst (mg2.map V.str))) a3 (.lst [.ref a1, .ref a2])) a1 = some (.lst (mg1.map V.str)) := ((same_new (o := .lst (mg2.map V.str)) h2).trans (same_new (o := .lst [.ref a1, .ref a2]) h3)) a1 (.lst (mg1.map V.str)) upd_same
    have e2 : (upd (upd (upd H a1 (.lst (mg1.map V.str))) a2 (.lst (mg2.map V.str))) a3 (.lst [.ref a1, .ref a2])) a2 = some (.lst (mg2.map V.str)) := (same_new (o := .lst [.ref a1, .ref a2]) h3) a2 (.lst (mg2.map V.str)) upd_same
    have e3 : (upd (upd (upd H a1 (.lst (mg1.map V.str))) a2 (.lst (mg2.map V.str))) a3 (.lst [.ref a1, .ref a2])) a3 = some (.lst [.ref a1, .ref a2]) := upd_same
    generalize (upd (upd (upd H a1 (.lst (mg1.map V.str))) a2 (.lst (mg2.map V.str))) a3 (.lst [.ref a1, .ref a2])) = H3 at s3 e1 e2 e3 ⊢
    refine ⟨fun σ H' => ∃ (a : Addr) (nm : List Str), σ = [some (.ref p), some (.int (m : Int)), some (.ref a3), some (.ref a), none, none] ∧ But p H H' ∧ FeedAt H' p ∧ H' a = some (.lst (nm.map V.str)) ∧ nm.length = 6 ∧ nm.Nodup ∧ ∀ z ∈ nm, isNameT z = true, ?_, ?_⟩
    · refine ⟨_, rfl, _, rfl, (by show 6 ≤ sizeLine; decide), fun a4 h4 => ⟨(by show 1 ≤ sizeLine; decide), fun a5 h5 => ?_⟩⟩
      rw [g3]
      have s5 : Same H3 (upd (upd H3 a4 (.lst (mg3.map V.str))) a5 (.lst [.ref a4])) := (same_new (o := .lst (mg3.map V.str)) h4).trans (same_new (o := .lst [.ref a4]) h5)
      have e4 : (upd (upd H3 a4 (.lst (mg3.map V.str))) a5 (.lst [.ref a4])) a4 = some (.lst (mg3.map V.str)) := same_new (o := .lst [.ref a4]) h5 a4 (.lst (mg3.map V.str)) upd_same
      have e5 : (upd (upd H3 a4 (.lst (mg3.map V.str))) a5 (.lst [.ref a4])) a5 = some (.lst [.ref a4]) := upd_same
      generalize (upd (upd H3 a4 (.lst (mg3.map V.str))) a5 (.lst [.ref a4])) = H5 at s5 e4 e5 ⊢
      refine ⟨a3, a5, _, _, rfl, rfl, s5 _ _ e3, e5, by show 3 ≤ sizeLine; decide, fun a6 h6 => ?_⟩
      have s6 := same_new (o := .lst ([.ref a1, .ref a2] ++ [.ref a4])) h6
      have f6 := hp.same (s3.trans (s5.trans s6))
      have b6 : But p H _ := Same.but (s3.trans (s5.trans s6))
      refine ⟨p, a6, [.ref a1, .ref a2] ++ [.ref a4], rfl, f6, fun z => ?_, SqL.of upd_same, (by show 1 ≤ 3; decide), (by show 3 ≤ 1000000; decide), fun r v H' hv b f => ?_⟩
      · have hp6 := (hp.same (s3.trans s5)).ne h6
        exact hp6 z
      have ok : ∀ (a : Addr) (nm : List Str), H5 a = some (.lst (nm.map V.str)) → nm.length = 6 → nm.Nodup ∧ (∀ z ∈ nm, isNameT z = true) → H' a = some (.lst (nm.map V.str)) := fun a nm e hl _ => by
        refine b _ _ (fun z => ?_) (s6 _ _ e)
        obtain ⟨d, st, g, _⟩ := f6
        rw [← z, s6 _ _ e] at g
        have e := congrArg (fun l : List V => l.length) (HO.lst.inj (Option.some.inj g))
        rw [List.length_map, hl] at e
        cases e
      match r, hv with
      | 0, e =>
        obtain rfl : V.ref a1 = v := Option.some.inj e
        exact ⟨a1, mg1, rfl, b6.trans b, f, ok a1 mg1 (s5 _ _ e1) rfl mg1_ok, rfl, mg1_ok⟩
      | 1, e =>
        obtain rfl : V.ref a2 = v := Option.some.inj e
        exact ⟨a2, mg2, rfl, b6.trans b, f, ok a2 mg2 (s5 _ _ e2) rfl mg2_ok, rfl, mg2_ok⟩
      | 2, e =>
        obtain rfl : V.ref a4 = v := Option.some.inj e
        exact ⟨a4, mg3, rfl, b6.trans b, f, ok a4 mg3 e4 rfl mg3_ok, rfl, mg3_ok⟩
      | r + 3, e => exact absurd e (by simp)
    · rintro σ H2 ⟨a, nm, rfl, b2, f2, ha, nl, nnd, nok⟩
      refine fun d hd => ?_
      have hap : ∀ {H4 : Hp}, FeedAt H4 p → H4 a = some (.lst (nm.map V.str)) → a ≠ p := fun f e z => by
        obtain ⟨d, st, g, _⟩ := f
        rw [z, g] at e
        have e := congrArg (fun l : List V => l.length) (HO.lst.inj (Option.some.inj e))
        rw [List.length_map, nl] at e
        cases e
      have s3' := same_new (o := .dK []) hd
      have hd0 := b2.free f2 hd
      have e3' : (upd H2 d (.dK [])) d = some (.dK (cellKv [])) := upd_same
      have pd := f2.ne hd
      have b3 := b2.then s3'
      have f3 := f2.same s3'
      have ha3 := s3' _ _ ha
      generalize upd H2 d (.dK []) = H3' at b3 f3 e3' ha3 ⊢
      refine ⟨_, rfl, _, rfl, _, rfl, p, m, rfl, f3, m1, by omega, fun r H4 hr4 b4 f4 => ⟨1, (r : Int), rfl, rfl, _, rfl, a, _, rfl, SqL.of (b4 _ _ (hap f3 ha3) ha3), fun o ho => ?_⟩⟩
      rw [cut_to (by omega)] at *
      have nl' : (nm.take (r + 1)).length = r + 1 := by rw [List.length_take]; omega
      have nnd' : (nm.take (r + 1)).Nodup := nnd.sublist (List.take_sublist _ _)
      have nok' : ∀ z ∈ nm.take (r + 1), isNameT z = true := fun z hz => nok z (List.mem_of_mem_take hz)
      generalize nm.take (r + 1) = nm' at *
      have b5 := (b3.trans b4).then (same_new (o := .lst (nm'.map V.str)) ho)
      have f5 := f4.put (o := .lst (nm'.map V.str)) (f4.ne ho)
      have ho5 : (upd H4 o (.lst (nm'.map V.str))) o = some (.lst (nm'.map V.str)) := upd_same
      have hop : o ≠ p := (f4.ne ho).symm
      have hd4 := b4 _ _ pd.symm e3'
      have hod : d ≠ o := ne_of_none hd4 ho
      have hd5 := same_new (o := .lst (nm'.map V.str)) ho _ _ hd4
      generalize (upd H4 o (.lst (nm'.map V.str))) = H5 at b5 f5 ho5 hd5 ⊢
      have wl : Walk (Itl K o) nm'.length (fun H => SqL K H o (nm'.map V.str)) (YAt (nm'.map V.str)) := (walk_list (K := K) (a := o) (xs := nm'.map V.str) |> fun z => by rw [List.length_map] at z; exact z)
      refine ⟨o, rfl, ⟨_, SqL.of ho5⟩, for_it wl (fun i σ H' => ∃ (v5 : Option V) (cs : List (Str × Nat)), σ = [some (.ref p), some (.int (m : Int)), some (.ref a3), some (.ref a), some (.ref d), v5] ∧ But p H H' ∧ FeedAt H' p ∧ H' o = some (.lst (nm'.map V.str)) ∧ H' d = some (.dK (cellKv cs)) ∧ cs.map Prod.fst = nm'.take i ∧ ∀ c ∈ cs, 1 ≤ c.2 ∧ c.2 ≤ 8)
        ⟨_, [], rfl, b5, f5, ho5, hd5, rfl, fun c hc => nomatch hc⟩ (fun i σ H' _ ⟨_, _, _, _, _, e, _⟩ => SqL.of e) ?_ ?_⟩
      · rintro i x σ H6 H7 hi ⟨v5, cs, rfl, b6, f6, ho6, hd6, hcs, hsz⟩ ⟨rfl, hx⟩
        have hz : nm'[i]? = some nm'[i] := List.getElem?_eq_getElem hi
        generalize nm'[i] = z at hz
        rw [List.getElem?_map, hz] at hx
        obtain rfl : V.str z = x := Option.some.inj hx
        refine ⟨_, rfl, _, rfl, (by show 3 ≤ sizeLine; decide), fun c hc => ⟨p, c, _, rfl, f6.put (f6.ne hc), f6.ne hc, SqL.of upd_same, (by show 1 ≤ 3; decide), (by show 3 ≤ 1000000; decide), fun r2 v H8 hv b8 f8 => ?_⟩⟩
        obtain ⟨sz, rfl, sz1, sz8⟩ : ∃ n : Nat, v = .int (n : Int) ∧ 1 ≤ n ∧ n ≤ 8 := by
          have hv' : ([V.int 1, .int 2, .int 8] : List V)[r2]? = some v := hv
          match r2, hv' with
          | 0, e => exact ⟨1, (Option.some.inj e).symm, by decide, by decide⟩
          | 1, e => exact ⟨2, (Option.some.inj e).symm, by decide, by decide⟩
          | 2, e => exact ⟨8, (Option.some.inj e).symm, by decide, by decide⟩
          | r + 3, e => exact absurd e (by simp)
        refine ⟨p, sz, rfl, f8, sz1, by omega, fun r9 H9 hr9 b9 f9 => ⟨1, (r9 : Int), rfl, rfl, ?_⟩⟩
        have bc := (But.refl p H7).then (same_new (o := .lst [V.int 1, .int 2, .int 8]) hc)
        have bH9 := (bc.trans b8).trans b9
        have hd9 := bH9 _ _ pd.symm hd6
        have ho9 := bH9 _ _ hop ho6
        have cl : cs.length = i := by
          have e := congrArg List.length hcs
          rw [List.length_map, List.length_take] at e
          omega
        have hno : valV (cellKv cs) (Sum.inr z) = none := val_no fun hm => by
          unfold cellKv at hm
          rw [List.map_map] at hm
          obtain ⟨c', h1, h2⟩ := List.mem_map.mp hm
          obtain rfl : c'.1 = z := Sum.inr.inj h2
          have h3 : c'.1 ∈ nm'.take i := hcs ▸ List.mem_map_of_mem (f := Prod.fst) h1
          obtain ⟨j, hj⟩ := List.mem_iff_getElem?.mp h3
          rw [List.getElem?_take] at hj
          split at hj
          · rename_i hji
            have := (List.getElem?_inj (List.getElem?_eq_some_iff.mp hj).1 nnd').mp (hj.trans hz.symm)
            omega
          · cases hj
        refine ⟨_, rfl, _, rfl, d, _, rfl, DPut.k (k := Sum.inr z) hd9 (by unfold cellKv; rw [List.length_map, sizeLine_eq]; omega), ?_⟩
        have ekv : putK (cellKv cs) (Sum.inr z) (V.int (1 + (r9 : Int))) = cellKv (cs ++ [(z, r9 + 1)]) := by
          rw [putK_new _ hno]
          unfold cellKv
          rw [List.map_append]
          show _ ++ [(Sum.inr z, V.int (1 + (r9 : Int)))] = _ ++ [(Sum.inr z, V.int ((r9 + 1 : Nat) : Int))]
          rw [show (1 + (r9 : Int)) = ((r9 + 1 : Nat) : Int) by omega]
        rw [ekv]
        refine ⟨_, cs ++ [(z, r9 + 1)], rfl, (b6.trans bH9).new hd0, f9.put pd, by rw [upd_ne hod.symm]; exact ho9, upd_same, by rw [List.map_append, hcs, List.take_add_one, hz]; rfl, fun c hc => ?_⟩
        rcases List.mem_append.mp hc with hc | hc
        · exact hsz c hc
        · rw [List.mem_singleton.mp hc]
          exact ⟨by show 1 ≤ r9 + 1; omega, by show r9 + 1 ≤ 8; omega⟩
      · rintro σ H6 ⟨v5, cs, rfl, b6, f6, ho6, hd6, hcs, hsz⟩
        rw [List.take_length] at hcs
        have cl : cs.length = r + 1 := by
          have e := congrArg List.length hcs
          rw [List.length_map] at e
          omega
        refine ⟨_, rfl, k d cs H6 b6 f6 hd0 hd6 ⟨fun e => ?_, by omega, fun c hc => nok' c.1 (hcs ▸ List.mem_map_of_mem (f := Prod.fst) hc), hsz, by rw [hcs]; exact nnd'⟩⟩
        rw [e] at cl
        cases cl
end
end Vf

set_option maxRecDepth 100000
set_option maxHeartbeats 8000000
namespace Vf
open PySem PySem.Spec PyProof.Rows L2
/-- all but two -/
def But2 (p d : Addr) (H1 H : Hp) : Prop := ∀ b o, b ≠ p → b ≠ d → H1 b = some o → H b = some o
theorem But2.trans {p d : Addr} {H1 H2 H3 : Hp} (a : But2 p d H1 H2) (s : But2 p d H2 H3) : But2 p d H1 H3 := fun b o h1 h2 e => s b o h1 h2 (a b o h1 h2 e)
theorem But.two {p d : Addr} {H1 H2 : Hp} (a : But p H1 H2) : But2 p d H1 H2 := fun b o h1 _ e => a b o h1 e
theorem Same.two {p d : Addr} {H1 H2 : Hp} (a : Same H1 H2) : But2 p d H1 H2 := fun b o _ _ e => a b o e
theorem But2.unlock {p d : Addr} {H H' : Hp} {u : HO} (a : But2 p d H H') (hd : H d = some u) : But p H (upd H' d u) := fun b o h1 e => by
  by_cases h : b = d
  · rw [h, hd] at e
    rw [h, upd_same]
    exact e
  · rw [upd_ne h]
    exact a b o h1 h e
theorem set_flat {ps : List (Addr × List Str)} : ∀ {k : Nat} {a L : Addr} {ws : List Str} {z : Str}, ps[k]? = some (a, ws) → ((ps.set k (L, ws ++ [z])).flatMap Prod.snd).Perm (ps.flatMap Prod.snd ++ [z]) := by
  induction ps with
  | nil => intro k a L ws z h; simp at h
  | cons q r ih =>
    intro k a L ws z h
    cases k with
    | zero =>
      obtain rfl : q = (a, ws) := Option.some.inj h
      rw [List.set_cons_zero, List.flatMap_cons, List.flatMap_cons, List.append_assoc, List.append_assoc]
      exact (List.perm_append_comm (l₁ := [z]) (l₂ := r.flatMap Prod.snd)).append_left ws
    | succ k =>
      rw [List.set_cons_succ, List.flatMap_cons, List.flatMap_cons, List.append_assoc]
      exact (ih (by simpa using h)).append_left q.2
theorem ixN_nat {n k : Nat} (h : k < n) : ixN n (k : Int) = some k := by
  unfold ixN
  rw [if_pos (by omega), if_pos (by omega)]
  simp
theorem total_app (cs : List (Str × Nat)) (a b : List Str) : total cs (a ++ b) = total cs a + total cs b := by
  unfold total
  rw [List.map_append, List.sum_append]
theorem total_one {cs : List (Str × Nat)} (g : GoodCs cs) {c : Str × Nat} (h : c ∈ cs) : total cs [c.1] = c.2 := by
  unfold total
  have : sizeOfD cs c.1 = c.2 := by unfold sizeOfD; rw [size_of_mem g.nd h]; rfl
  rw [List.map_cons, List.map_nil, List.sum_cons, List.sum_nil, this]
  rfl
theorem feed_ne {H : Hp} {p q : Addr} {ws : List Str} (f : FeedAt H p) (h : H q = some (.lst (ws.map V.str))) (hne : ws ≠ []) : q ≠ p := fun z => by
  obtain ⟨a, b, g, _⟩ := f
  rw [z, g] at h
  have e := HO.lst.inj (Option.some.inj h)
  cases ws with
  | nil => exact hne rfl
  | cons x r => cases (List.cons.inj e).1
section
variable {P : Program} {w : World} {K : PySem.W.Frag} {mg : Str → Option Value} {base : Heap}
/-- lines under way: the cells so far -/
structure HalfLines (H : Hp) (l p : Addr) (cs : List (Str × Nat)) (r i : Nat) (ps : List (Addr × List Str)) : Prop where
  at_ : H l = some (.lst (ps.map fun p => V.ref p.1))
  each : ∀ q ∈ ps, H q.1 = some (.lst (q.2.map V.str)) ∧ q.2 ≠ [] ∧ total cs q.2 ≤ r
  perm : (ps.flatMap Prod.snd).Perm ((cs.take i).map Prod.fst)
theorem HalfLines.ne {H : Hp} {l p : Addr} {cs : List (Str × Nat)} {r i : Nat} {ps : List (Addr × List Str)} (h : HalfLines H l p cs r i ps) {q : Addr × List Str} (hq : q ∈ ps) : q.1 ≠ l := fun z => by
  obtain ⟨e, hne, _⟩ := h.each q hq
  rw [z, h.at_] at e
  have e2 := HO.lst.inj (Option.some.inj e)
  cases e3 : q.2 with
  | nil => exact hne e3
  | cons x r =>
    rw [e3] at e2
    cases ps with
    | nil => cases hq
    | cons y ys => cases (List.cons.inj e2).1
theorem HalfLines.same {H H' : Hp} {l p : Addr} {cs : List (Str × Nat)} {r i : Nat} {ps : List (Addr × List Str)} (h : HalfLines H l p cs r i ps) (s : Same H H') : HalfLines H' l p cs r i ps :=
  ⟨s _ _ h.at_, fun q hq => ⟨s _ _ (h.each q hq).1, (h.each q hq).2⟩, h.perm⟩
theorem take_names {cs : List (Str × Nat)} {i : Nat} {c : Str × Nat} (hc : cs[i]? = some c) : (cs.take (i + 1)).map Prod.fst = (cs.take i).map Prod.fst ++ [c.1] := by
  rw [List.take_add_one, hc, List.map_append]
  rfl
theorem HalfLines.more {H : Hp} {l p n : Addr} {cs : List (Str × Nat)} {r i : Nat} {ps : List (Addr × List Str)} {c : Str × Nat} (h : HalfLines H l p cs r i ps) (g : GoodCs cs) (hc : cs[i]? = some c) (hr : maxOf cs ≤ r) (hn : H n = none) :
    HalfLines (upd (upd H n (.lst [.str c.1])) l (.lst ((ps.map fun q => V.ref q.1) ++ [.ref n]))) l p cs r (i + 1) (ps ++ [(n, [c.1])]) := by
  have hln : n ≠ l := (ne_of_none h.at_ hn).symm
  refine ⟨by rw [upd_same, List.map_append]; rfl, fun q hq => ?_, ?_⟩
  · rcases List.mem_append.mp hq with hq | hq
    · exact ⟨by rw [upd_ne (h.ne hq)]; exact same_new hn _ _ (h.each q hq).1, (h.each q hq).2⟩
    · obtain rfl := List.mem_singleton.mp hq
      refine ⟨by rw [upd_ne hln, upd_same]; rfl, by simp, ?_⟩
      show total cs [c.1] ≤ r
      rw [total_one g (List.mem_of_getElem? hc)]
      exact Nat.le_trans (size_le_max (List.mem_of_getElem? hc)) hr
  · rw [List.flatMap_append, take_names hc]
    exact h.perm.append (by simp)
theorem HalfLines.put {H : Hp} {l p a L : Addr} {cs : List (Str × Nat)} {r i k : Nat} {ps : List (Addr × List Str)} {ws : List Str} {c : Str × Nat} (h : HalfLines H l p cs r i ps) (hc : cs[i]? = some c) (hk : ps[k]? = some (a, ws)) (hL : H L = some (.lst ((ws ++ [c.1]).map V.str))) (hne : L ≠ l)
    (ht : total cs (ws ++ [c.1]) ≤ r) : HalfLines (upd H l (.lst ((ps.map fun q => V.ref q.1).set k (.ref L)))) l p cs r (i + 1) (ps.set k (L, ws ++ [c.1])) := by
  refine ⟨by rw [upd_same, List.map_set], fun q hq => ?_, ?_⟩
  · rcases List.mem_or_eq_of_mem_set hq with hq | rfl
    · exact ⟨by rw [upd_ne (h.ne hq)]; exact (h.each q hq).1, (h.each q hq).2⟩
    · exact ⟨by rw [upd_ne hne]; exact hL, by simp, ht⟩
  · rw [take_names hc]
    exact (set_flat hk).trans (h.perm.append_right _)
def sp_law_lines : Sp := fun vs H Q _ => ∃ (p d : Addr) (cs : List (Str × Nat)) (r : Nat), vs = [.ref p, .ref d, .int (r : Int)] ∧ FeedAt H p ∧ H d = some (.dK (cellKv cs)) ∧ GoodCs cs ∧ maxOf cs ≤ r ∧
  ∀ l ps H', But p H H' → FeedAt H' p → InLines H' l cs r ps → Q (.ref l) H'
theorem ok_law_lines {f : Addr} {fd : FuncData} (F : Fun K "_law_lines" "_law_lines" s_law_lines f fd) (T : Txt0 K mg) (GT : OkF P w K mg base CX0 "_law_take" p_law_take 1 sp_law_take) :
    FnOk P w K mg base CX0 3 f fd p_law_lines sp_law_lines := by
  refine F.ok sc_law_lines (fun vs H Q E h => ?_) (fun cdv A outer s H vs Q E hr h => ?_)
  · obtain ⟨p, d, cs, r, rfl, _⟩ := h
    rfl
  · obtain ⟨p, d, cs, r, rfl, hp, hd, g, hmx, k⟩ := h
    have hr1 : Room 1 _ := hr.mono (by decide)
    refine ⟨_, pss_cons (ps_set (i := 3) sc_law_lines.nd rfl (Or.inl rfl) (pe_lst pa_nil))
      (pss_cons (ps_lock (ps_for PassesOwn.never rfl (pi_keys (pv 1)) (pg_name (i := 4) sc_law_lines.nd rfl (Or.inl rfl))
        (pss_cons (ps_set (i := 5) sc_law_lines.nd rfl (Or.inl rfl) (pe_fn GT hr1 rfl pass0 (pa_cons (pv 0) (pa_cons (pe_op op_add (pe_callB call_len_seq (by rfl) T.len PySem.boot_len (pa_cons (pv 3) pa_nil)) pe_int) pa_nil))))
        (pss_cons (ps_set (i := 6) sc_law_lines.nd rfl (Or.inl rfl) (pe_op op_cat (pe_ix ix_list (pe_op op_cat (pv 3) (pe_lst (pa_cons (pe_lst pa_nil) pa_nil))) (pv 5) (fun _ _ => rfl)) (pe_lst (pa_cons (pv 4) pa_nil))))
        (pss_one (ps_if (PW.pt (pw_and (pt_cmpR op_lt (pv 5) (pe_callB call_len_seq (by rfl) T.len PySem.boot_len (pa_cons (pv 3) pa_nil)) (nomark _))
            (pw_and1 (pt_cmpR op_le (pe_callB (cr_sum rfl) (by rfl) T.sum (by decide +kernel) (pa_cons (pe_lc (own := [("one", 7)]) (g := gName 7) (tt := tYes) rfl sc_law_lines.nd (pi_list (pv 6)) (blkOk_by (N := n_law_lines) (sc := defScope s_law_lines) (by decide +kernel))
              (fun _ _ _ _ _ => pg_name (i := 7) sc_law_lines.nd rfl (Or.inl rfl)) (fun _ _ _ _ _ => pts_nil) (fun _ _ _ _ _ => pe_dget (hu_of hr) (pv 1) (pv 7) (fun _ _ => rfl))) pa_nil)) (pv 2) (nomark _)))))
          (pss_one (ps_asg (pv 6) (pg_sub (pv 3) (pv 5) set_list)))
          (pss_one (ps_expr (pe_bm PySem.F.plainAttrs_list PySem.F.slot_list_append PySem.F.type_list_append mt_append (pv 3) (pa_cons (pe_lst (pa_cons (pv 4) pa_nil)) pa_nil))))))))))
      (pss_one (ps_ret (pv 3)))), ?_⟩
    have few := g.few
    have kl : (cellKv cs).length = cs.length := List.length_map ..
    have wk : ∀ {o : Obj}, Walk (Itk d o (cellKv cs)) cs.length (fun H => H d = some (.frz o (.dK (cellKv cs)))) (fun i H x H' => H' = H ∧ ∃ k v, (cellKv cs)[i]? = some (k, v) ∧ x = kV k) := fun {o} => (walk_keys (d := d) (o := o) (kvs := cellKv cs) |> fun z => by rw [kl] at z; exact z)
    refine ⟨Nat.zero_le _, fun fl hfl => ?_⟩
    have hpd : p ≠ d := by
      obtain ⟨a, b, g1, _⟩ := hp
      exact ne_of g1 hd (by intro z; cases z)
    have hpf : p ≠ fl := hp.ne hfl
    have hdf : d ≠ fl := ne_of_none hd hfl
    have hd1 : (upd H fl (.lst [])) d = some (.dK (cellKv cs)) := by rw [upd_ne hdf]; exact hd
    refine ⟨d, _, hd1, True.intro, fun o => ?_⟩
    have hz : (upd (upd H fl (.lst [])) d (.frz o (.dK (cellKv cs)))) d = some (.frz o (.dK (cellKv cs))) := upd_same
    have b0 : But2 p d H (upd (upd H fl (.lst [])) d (.frz o (.dK (cellKv cs)))) := fun b u _ h2 e => by rw [upd_ne h2, upd_ne (ne_of_none e hfl)]; exact e
    have f0 : FeedAt (upd (upd H fl (.lst [])) d (.frz o (.dK (cellKv cs)))) p := (hp.put hpf).put hpd
    have l0 : HalfLines (upd (upd H fl (.lst [])) d (.frz o (.dK (cellKv cs)))) fl p cs r 0 [] := ⟨by rw [upd_ne hdf.symm, upd_same]; rfl, (fun q hq => nomatch hq), by simp⟩
    generalize (upd (upd H fl (.lst [])) d (.frz o (.dK (cellKv cs)))) = H0 at hz b0 f0 l0 ⊢
    refine ⟨_, rfl, d, o, rfl, .inl ⟨_, hz, for_it wk (fun i σ H' => ∃ (v4 v5 v6 v7 : Option V) (ps : List (Addr × List Str)), σ = [some (.ref p), some (.ref d), some (.int (r : Int)), some (.ref fl), v4, v5, v6, v7] ∧ But2 p d H H' ∧ FeedAt H' p ∧ H' d = some (.frz o (.dK (cellKv cs))) ∧ HalfLines H' fl p cs r i ps)
      ⟨_, _, _, _, [], rfl, b0, f0, hz, l0⟩ (fun i σ H' _ ⟨_, _, _, _, _, _, _, _, e, _⟩ => e) ?_ ?_⟩⟩
    · rintro i x σ H1 H2 hi ⟨v4, v5, v6, v7, ps, rfl, b1, f1, hd1, hl1⟩ ⟨rfl, kx, vx, hkv, rfl⟩
      have hc : cs[i]? = some cs[i] := List.getElem?_eq_getElem hi
      generalize cs[i] = c at hc
      have hcm := List.mem_of_getElem? hc
      have e0 : (cellKv cs)[i]? = some (Sum.inr c.1, V.int (c.2 : Int)) := by unfold cellKv; rw [List.getElem?_map, hc]; rfl
      rw [e0] at hkv
      obtain rfl : Sum.inr c.1 = kx := (Prod.mk.inj (Option.some.inj hkv)).1
      have lps : ps.length ≤ i := by
        have a := flat_len fun q hq => (hl1.each q hq).2.1
        have b := hl1.perm.length_eq
        rw [List.length_map, List.length_take] at b
        omega
      have tk : (cs.take (i + 1)).map Prod.fst = (cs.take i).map Prod.fst ++ [c.1] := by
        rw [List.take_add_one, hc, List.map_append]
        rfl
      refine ⟨_, rfl, _, rfl, fl, _, rfl, .inl (SqL.of hl1.at_), _, _, rfl, rfl, p, ps.length + 1, (by rw [List.length_map]; rfl), f1, by omega, by omega, fun k0 H3 hk0 b3 f3 => ?_⟩
      have fld : fl ≠ d := hdf.symm
      have hd3 := b3 _ _ hpd.symm hd1
      have hf3 := b3 _ _ hpf.symm hl1.at_
      have he3 : ∀ q ∈ ps, H3 q.1 = some (.lst (q.2.map V.str)) ∧ q.2 ≠ [] ∧ total cs q.2 ≤ r := fun q hq => ⟨b3 _ _ (feed_ne f1 (hl1.each q hq).1 (hl1.each q hq).2.1) (hl1.each q hq).1, (hl1.each q hq).2⟩
      have b13 := b1.trans b3.two
      refine ⟨_, rfl, Nat.zero_le _, fun e1 he1 => ⟨(by show 1 ≤ sizeLine; decide), fun w1 hw1 => ?_⟩⟩
      have s4 := (same_new (o := .lst []) he1).trans (same_new (o := .lst [.ref e1]) hw1)
      have e14 : (upd (upd H3 e1 (.lst [])) w1 (.lst [.ref e1])) e1 = some (.lst []) := same_new hw1 _ _ upd_same
      have w14 : (upd (upd H3 e1 (.lst [])) w1 (.lst [.ref e1])) w1 = some (.lst [.ref e1]) := upd_same
      generalize (upd (upd H3 e1 (.lst [])) w1 (.lst [.ref e1])) = H4 at s4 e14 w14 ⊢
      refine ⟨fl, w1, _, _, rfl, rfl, s4 _ _ hf3, w14, by rw [List.length_map, sizeLine_eq]; show ps.length + 1 ≤ _; omega, fun c1 hc1 => ?_⟩
      have s5 := same_new (o := .lst ((ps.map fun q => V.ref q.1) ++ [.ref e1])) hc1
      have c15 : (upd H4 c1 (.lst ((ps.map fun q => V.ref q.1) ++ [.ref e1]))) c1 = some (.lst ((ps.map fun q => V.ref q.1) ++ [.ref e1])) := upd_same
      generalize (upd H4 c1 (.lst ((ps.map fun q => V.ref q.1) ++ [.ref e1]))) = H5 at s5 c15 ⊢
      have s35 := s4.trans s5
      obtain ⟨a1, ws, hix, ha1, hcase⟩ : ∃ (a1 : Addr) (ws : List Str), ((ps.map fun q => V.ref q.1) ++ [V.ref e1])[k0]? = some (V.ref a1) ∧ H5 a1 = some (.lst (ws.map V.str)) ∧ ((k0 < ps.length ∧ ps[k0]? = some (a1, ws)) ∨ (¬ k0 < ps.length ∧ ws = [])) := by
        by_cases hk : k0 < ps.length
        · have hq : ps[k0]? = some ps[k0] := List.getElem?_eq_getElem hk
          refine ⟨ps[k0].1, ps[k0].2, ?_, s35 _ _ (he3 _ (List.mem_of_getElem? hq)).1, .inl ⟨hk, hq⟩⟩
          rw [List.getElem?_append_left (by rw [List.length_map]; exact hk), List.getElem?_map, hq]
          rfl
        · refine ⟨e1, [], ?_, s5 _ _ e14, .inr ⟨hk, rfl⟩⟩
          have : k0 = ps.length := by omega
          rw [List.getElem?_append_right (by rw [List.length_map]; omega), List.length_map, this, Nat.sub_self]
          rfl
      refine ⟨_, rfl, c1, _, (k0 : Int), .ref a1, rfl, rfl, SqL.of c15, at_of rfl hix, _, rfl, (by show 1 ≤ sizeLine; decide), fun n1 hn1 => ?_⟩
      have s6 := same_new (o := .lst [kV (Sum.inr c.1)]) hn1
      have n16 : (upd H5 n1 (.lst [kV (Sum.inr c.1)])) n1 = some (.lst [.str c.1]) := upd_same
      generalize (upd H5 n1 (.lst [kV (Sum.inr c.1)])) = H6 at s6 n16 ⊢
      have s36 := s35.trans s6
      have hl6 : HalfLines H6 fl p cs r i ps := ⟨s36 _ _ hf3, fun q hq => ⟨s36 _ _ (he3 q hq).1, (he3 q hq).2⟩, hl1.perm⟩
      have hws : ws.length ≤ 6 := by
        rcases hcase with ⟨hk, hq⟩ | ⟨_, rfl⟩
        · have a := flat_part (List.mem_of_getElem? hq)
          have b := hl1.perm.length_eq
          rw [List.length_map, List.length_take] at b
          have a' : ws.length ≤ (ps.flatMap Prod.snd).length := a
          omega
        · simp
      refine ⟨a1, n1, _, _, rfl, rfl, s6 _ _ ha1, n16, by rw [List.length_map, sizeLine_eq]; show ws.length + 1 ≤ _; omega, fun L hL => ?_⟩
      have s7 := same_new (o := .lst (ws.map V.str ++ [.str c.1])) hL
      have L7 : (upd H6 L (.lst (ws.map V.str ++ [.str c.1]))) L = some (.lst ((ws ++ [c.1]).map V.str)) := by rw [upd_same, List.map_append]; rfl
      have hLf : L ≠ fl := (ne_of_none hl6.at_ hL).symm
      generalize (upd H6 L (.lst (ws.map V.str ++ [.str c.1]))) = H7 at s7 L7 ⊢
      have s37 := s36.trans s7
      have hl7 := hl6.same s7
      have hd7 := s37 _ _ hd3
      have f7 := f3.same s37
      have b17 := b13.trans (Vf.Same.two s37)
      have hfH : H fl = none := hfl
      have keep : ∀ (H' : Hp) (o' : HO), But2 p d H H' → But2 p d H (upd H' fl o') := fun H' o' b x u h1 h2 e => by rw [upd_ne (ne_of_none e hfH)]; exact b x u h1 h2 e
      refine ⟨_, rfl, _, rfl, fl, _, rfl, .inl (SqL.of hl7.at_), _, _, rfl, rfl, _, rfl, ?_⟩
      rw [List.length_map]
      rcases hcase with ⟨hk, hq⟩ | ⟨hk, _⟩
      · rw [decide_eq_true (p := (k0 : Int) < (ps.length : Int)) (by omega)]
        have wl : Walk (Itl K L) (ws ++ [c.1]).length (fun H => SqL K H L ((ws ++ [c.1]).map V.str)) (YAt ((ws ++ [c.1]).map V.str)) := (walk_list (K := K) (a := L) (xs := (ws ++ [c.1]).map V.str) |> fun z => by rw [List.length_map] at z; exact z)
        refine iteT ⟨_, rfl, L, rfl, ⟨_, SqL.of L7⟩, fun D hD => lc_mp (ws ++ [c.1]) wl hD (fun z => .int (sizeOfD cs z : Nat)) (by rw [List.length_append, List.length_singleton]; omega) (fun H5 s5 => SqL.of (s5 _ _ L7)) ?_ ?_⟩
        · rintro j z x H8 H9 hj s8 ⟨rfl, hx⟩ R hR
          rw [List.getElem?_map, hj] at hx
          obtain rfl : V.str z = x := Option.some.inj hx
          have hzin : z ∈ cs.map Prod.fst := by
            rcases List.mem_append.mp (List.mem_of_getElem? hj) with h1 | h1
            · have hm := hl1.perm.mem_iff.mp (List.mem_flatMap.mpr ⟨_, List.mem_of_getElem? hq, h1⟩)
              obtain ⟨c', hc', rfl⟩ := List.mem_map.mp hm
              exact List.mem_map_of_mem (List.mem_of_mem_take hc')
            · rw [List.mem_singleton.mp h1]
              exact List.mem_map_of_mem hcm
          have gg : DGet H9 d (kV (Sum.inr z)) (valV (cellKv cs) (Sum.inr z)) := .inl ⟨cellKv cs, Sum.inr z, .inr ⟨o, s8 _ _ hd7⟩, rfl, rfl⟩
          rw [valV_cells, size_some hzin] at gg
          exact ⟨rfl, _, rfl, _, rfl, d, _, rfl, gg, hR _ (Same.refl _)⟩
        · intro H8 s8 hLL
          refine ⟨D, (ws ++ [c.1]).map fun z => ((sizeOfD cs z : Nat) : Int), rfl, SqL.of (by rw [hLL, List.map_map]; rfl), _, rfl, _, _, rfl, rfl, _, rfl, ?_⟩
          have e : ∀ l : List Str, (l.map fun z => ((sizeOfD cs z : Nat) : Int)).sum = ((total cs l : Nat) : Int) := fun l => by
            unfold total
            induction l with
            | nil => rfl
            | cons z r ih =>
              rw [List.map_cons, List.map_cons, List.sum_cons, List.sum_cons, ih]
              omega
          rw [e]
          have hl8 := hl7.same s8
          by_cases ht : total cs (ws ++ [c.1]) ≤ r
          · rw [decide_eq_true (p := ((total cs (ws ++ [c.1]) : Nat) : Int) ≤ (r : Int)) (by omega)]
            refine iteT ⟨_, rfl, _, rfl, _, rfl, fl, _, (k0 : Int), k0, rfl, rfl, hl8.at_, ixN_nat (by rw [List.length_map]; exact hk), ?_⟩
            exact ⟨_, _, _, _, _, rfl, keep _ _ (b17.trans (Vf.Same.two s8)), (f7.same s8).put hpf, by rw [upd_ne hdf]; exact s8 _ _ hd7, hl8.put hc hq (s8 _ _ L7) hLf ht⟩
          · rw [decide_eq_false (p := ((total cs (ws ++ [c.1]) : Nat) : Int) ≤ (r : Int)) (by omega)]
            refine iteF ⟨_, rfl, .inl ⟨rfl, _, SqL.of hl8.at_⟩, _, rfl, (by show 1 ≤ sizeLine; decide), fun n2 hn2 => ⟨fl, _, _, rfl, rfl, same_new hn2 _ _ hl8.at_, by rw [List.length_map, sizeLine_eq]; omega, ?_⟩⟩
            exact ⟨_, _, _, _, _, rfl, keep _ _ ((b17.trans (Vf.Same.two s8)).trans (Vf.Same.two (same_new hn2))), ((f7.same s8).same (same_new hn2)).put hpf, by rw [upd_ne hdf]; exact same_new hn2 _ _ (s8 _ _ hd7), hl8.more g hc hmx hn2⟩
      · rw [decide_eq_false (p := (k0 : Int) < (ps.length : Int)) (by omega)]
        refine iteF (iteF ⟨_, rfl, .inl ⟨rfl, _, SqL.of hl7.at_⟩, _, rfl, (by show 1 ≤ sizeLine; decide), fun n2 hn2 => ⟨fl, _, _, rfl, rfl, same_new hn2 _ _ hl7.at_, by rw [List.length_map, sizeLine_eq]; omega, ?_⟩⟩)
        exact ⟨_, _, _, _, _, rfl, keep _ _ (b17.trans (Vf.Same.two (same_new hn2))), (f7.same (same_new hn2)).put hpf, by rw [upd_ne hdf]; exact same_new hn2 _ _ hd7, hl7.more g hc hmx hn2⟩
    · rintro σ H1 ⟨v4, v5, v6, v7, ps, rfl, b1, f1, hd1, hl1⟩
      refine ⟨hd1, ?_⟩
      have bU : But p H (upd H1 d (.dK (cellKv cs))) := b1.unlock hd
      have fU : FeedAt (upd H1 d (.dK (cellKv cs))) p := f1.put hpd
      have nd : ∀ q ∈ ps, q.1 ≠ d := fun q hq z => by
        have e := (hl1.each q hq).1
        rw [z, hd1] at e
        cases e
      have hlU : HalfLines (upd H1 d (.dK (cellKv cs))) fl p cs r cs.length ps := ⟨by rw [upd_ne hdf.symm]; exact hl1.at_, fun q hq => ⟨by rw [upd_ne (nd q hq)]; exact (hl1.each q hq).1, (hl1.each q hq).2⟩, hl1.perm⟩
      generalize (upd H1 d (.dK (cellKv cs))) = H2 at bU fU hlU ⊢
      refine ⟨_, rfl, k fl ps _ bU fU ⟨hlU.at_, hlU.each, ?_⟩⟩
      have e := hlU.perm
      rw [List.take_length] at e
      exact e
end
end Vf

set_option maxRecDepth 100000
set_option maxHeartbeats 8000000
namespace Vf
open PySem PySem.Spec PyProof.Rows L2
section
variable {P : Program} {w : World} {K : PySem.W.Frag} {mg : Str → Option Value} {base : Heap}
def sp_law_layout : Sp := fun vs H Q _ => ∃ (p : Addr) (m : Nat), vs = [.ref p, .int (m : Int)] ∧ FeedAt H p ∧ 1 ≤ m ∧ m ≤ 6 ∧ ∀ (t d l : Addr) (cs : List (Str × Nat)) (r : Nat) (ps : List (Addr × List Str)) H', But p H H' → FeedAt H' p → H' t = some (.lst [.ref d, .int (r : Int), .ref l]) → H' d = some (.dK (cellKv cs)) → GoodCs cs → 1 ≤ r → r ≤ 32 → InLines H' l cs r ps → Q (.ref t) H'
theorem ok_law_layout {f : Addr} {fd : FuncData} (F : Fun K "_law_layout" "_law_layout" s_law_layout f fd) (T : Txt0 K mg) (GC : OkF P w K mg base CX0 "_law_cells" p_law_cells 3 sp_law_cells) (GT : OkF P w K mg base CX0 "_law_take" p_law_take 1 sp_law_take) (GL : OkF P w K mg base CX0 "_law_lines" p_law_lines 3 sp_law_lines) :
    FnOk P w K mg base CX0 4 f fd p_law_layout sp_law_layout := by
  refine F.ok sc_law_layout (fun vs H Q E h => ?_) (fun cdv A outer s H vs Q E hr h => ?_)
  · obtain ⟨p, m, rfl, _⟩ := h
    rfl
  · obtain ⟨p, m, rfl, hp, m1, m6, k⟩ := h
    have hr1 : Room 1 _ := hr.mono (by decide)
    refine ⟨_, pss_cons (ps_set (i := 2) sc_law_layout.nd rfl (Or.inl rfl) (pe_fn GC hr rfl pass0 (pa_cons (pv 0) (pa_cons (pv 1) pa_nil))))
      (pss_cons (ps_set (i := 3) sc_law_layout.nd rfl (Or.inl rfl) (pe_callB (call_max2 rfl) (by rfl) T.max (by decide +kernel) (pa_cons (pe_callB (cr_max rfl) (by rfl) T.max (by decide +kernel) (pa_cons (pe_listVals rfl (pv 2) (by rfl) T.list (by decide +kernel)) pa_nil))
          (pa_cons (pe_op op_add pe_int (pe_fn GT hr1 rfl pass0 (pa_cons (pv 0) (pa_cons pe_int pa_nil)))) pa_nil))))
      (pss_one (ps_ret (pe_lst (pa_cons (pv 2) (pa_cons (pv 3) (pa_cons (pe_fn GL hr rfl pass0 (pa_cons (pv 0) (pa_cons (pv 2) (pa_cons (pv 3) pa_nil)))) pa_nil))))))), ?_⟩
    refine ⟨_, rfl, _, rfl, p, m, rfl, hp, m1, m6, fun d cs H1 b1 f1 hd0 hd1 g => ?_⟩
    have few := g.few
    have hpd : d ≠ p := by
      obtain ⟨x, y, g1, _⟩ := f1
      exact (ne_of g1 hd1 (by intro z; cases z)).symm
    refine ⟨_, rfl, d, _, rfl, hd1, fun q hq => ⟨q, cs.map (fun p => (p.2 : Int)), rfl, SqL.of (by rw [upd_same]; unfold cellKv; rw [List.map_map, List.map_map]; rfl), by rw [List.length_map]; exact List.length_pos_iff.mpr g.some, fun mm hm1 hm2 => ?_⟩⟩
    obtain rfl := maxOf_of hm1 hm2
    have s1 := same_new (o := .lst ((cellKv cs).map Prod.snd)) hq
    refine ⟨_, rfl, p, 16, rfl, f1.same s1, by decide, by decide, fun k0 H3 hk0 b3 f3 => ⟨1, (k0 : Int), rfl, rfl, _, _, rfl, ?_⟩⟩
    obtain ⟨mx1, mx8⟩ := maxOf_good g
    have er : (V.int (if (1 + (k0 : Int)) > (maxOf cs : Int) then (1 + (k0 : Int)) else (maxOf cs : Int))) = V.int ((max (1 + k0) (maxOf cs) : Nat) : Int) := by
      congr 1
      split <;> omega
    have hd3 := b3 _ _ hpd (s1 _ _ hd1)
    have hm : maxOf cs ≤ max (1 + k0) (maxOf cs) := Nat.le_max_right _ _
    have hm32 : max (1 + k0) (maxOf cs) ≤ 32 := by omega
    have hm0 : 1 ≤ max (1 + k0) (maxOf cs) := by omega
    rw [er]
    generalize max (1 + k0) (maxOf cs) = r at hm hm32 hm0 ⊢
    refine ⟨_, rfl, _, rfl, _, rfl, _, rfl, _, rfl, p, d, cs, r, rfl, f3, hd3, g, hm, fun l ps H4 b4 f4 il => ⟨(by show 3 ≤ sizeLine; decide), fun t ht => ?_⟩⟩
    exact k t d l cs r ps _ ((((b1.then s1).trans b3).trans b4).then (same_new ht)) (f4.same (same_new ht)) upd_same (same_new ht _ _ (b4 _ _ hpd hd3)) g hm0 hm32 (il.same (same_new ht))
end
end Vf

set_option maxRecDepth 100000
set_option maxHeartbeats 4000000
namespace Vf
open PySem PySem.Spec PyProof.Rows L2
def rItemsK : V → List V → Hp → VK → Prop := fun x xs H Q => ∃ (a : Addr) (kvs : List (Key × V)), x = .ref a ∧ xs = [] ∧ H a = some (.dK kvs) ∧ ∀ p, H p = none → Q (.ref p) (upd H p (L2.DX.itemsO p a))
theorem mt_itemsK {X : Cx} : MtR X "dict.items" rItemsK := by
  intro pins s σ H x xs v us Q I rx rxs h
  obtain ⟨a, kvs, rfl, rfl, ha, q⟩ := h
  cases rx
  cases rxs
  obtain ⟨hz, hs0, vs, kv, hdo⟩ := (show ObjOk X.prog X.w H s.heap a (.dK kvs) from I.hok a _ ha)
  refine call_meetsIn PySem.F.slot_dict_items hdo.typeIs PySem.F.entry_dict_items (PySem.F.args_dict_items_1 _) (meets_dict_items (mixKind X.prog X.w) a hs0) ⟨⟨vs, hdo⟩, ?_⟩
  have hf : H s.heap.objs.size = none := I.hok.fresh (Nat.le_refl _)
  exact ⟨.ref s.heap.objs.size, upd H s.heap.objs.size (L2.DX.itemsO s.heap.objs.size a), I.laid (t' := s.toks) (fun b u e => Heap.get?_push_of_some _ e) (Nat.le_refl _) (L2.DX.itemsO_ok (Heap.get?_push_size _ rfl)), rfl, q _ hf⟩
theorem pe_ditems {X : Cx} {o : Expr} {to : TE} {apos cpos : Pos} (ho : PE X o to) (hbase : attributeBase o "items" X.env (eval o X.env) = eval o X.env := by rfl) (hline : (apos.endLine == cpos.line) = true := by rfl) : PE X (.Call (.Attribute o "items" apos) [] [] cpos) (tBM0 X.K "dict" rItemsK to) :=
  pe_bm0 PySem.F.plainAttrs_dict PySem.F.slot_dict_items PySem.F.type_dict_items mt_itemsK ho hbase hline
def prD (c : Str × Nat) : PyData := .tuple [.str c.1, .int (c.2 : Int)]
def srtP (cs : List (Str × Nat)) : List (Str × Nat) := cs.mergeSort (PySem.W.dataLe false prD)
theorem alike_pr (a b : Str × Nat) : PySem.W.alike (prD a) (prD b) = true := by
  unfold prD
  simp only [PySem.W.alike, PySem.W.alikeAll, Bool.and_self]
theorem toks_pr (a : Str × Nat) : PySem.W.keyToks (prD a) = [.inl 1, .inr a.1.cps.toList, .inl 1, .inl (a.2 : Int), .inl 0] := by
  unfold prD
  simp [PySem.W.keyToks, PySem.W.keyToksAll]
theorem pr_anti {a b : Str × Nat} (h1 : PySem.W.dataLe false prD a b = true) (h2 : PySem.W.dataLe false prD b a = true) : a = b := by
  have e1 : (listOrd itemOrd).blt (PySem.W.keyToks (prD b)) (PySem.W.keyToks (prD a)) = false := Bool.not_eq_true' _ |>.mp h1
  have e2 : (listOrd itemOrd).blt (PySem.W.keyToks (prD a)) (PySem.W.keyToks (prD b)) = false := Bool.not_eq_true' _ |>.mp h2
  have e := (listOrd itemOrd).total _ _ e2 e1
  rw [toks_pr, toks_pr] at e
  injection e with _ e
  injection e with q1 e
  injection e with _ e
  injection e with q2 e
  have z1 := str_eq (Sum.inr.inj q1)
  have z2 : (a.2 : Int) = b.2 := Sum.inl.inj q2
  exact Prod.ext z1 (by omega)
theorem dle_trans {β : Type} (k : β → PyData) (a b c : β) : PySem.W.dataLe false k a b = true → PySem.W.dataLe false k b c = true → PySem.W.dataLe false k a c = true := (PySem.W.sortLe_total (listOrd itemOrd) false fun b => PySem.W.keyToks (k b)).trans a b c
theorem dle_total {β : Type} (k : β → PyData) (a b : β) : (PySem.W.dataLe false k a b || PySem.W.dataLe false k b a) = true := by
  have := (PySem.W.sortLe_total (listOrd itemOrd) false fun b => PySem.W.keyToks (k b)).total a b
  rw [Bool.or_eq_true]
  exact this
theorem srtP_same {a b : List (Str × Nat)} (p : a.Perm b) : srtP a = srtP b :=
  List.Perm.eq_of_pairwise (le := fun a b => PySem.W.dataLe false prD a b = true) (fun _ _ _ _ h1 h2 => pr_anti h1 h2) (List.pairwise_mergeSort (dle_trans prD) (dle_total prD) a) (List.pairwise_mergeSort (dle_trans prD) (dle_total prD) b)
    ((List.mergeSort_perm a _).trans (p.trans (List.mergeSort_perm b _).symm))
theorem toks_ln : ∀ {xs ys : List Str}, PySem.W.keyToksAll (xs.map PyData.str) = PySem.W.keyToksAll (ys.map PyData.str) → xs = ys
  | [], [], _ => rfl
  | [], y :: ys, h => by simp [PySem.W.keyToksAll] at h
  | x :: xs, [], h => by simp [PySem.W.keyToksAll] at h
  | x :: xs, y :: ys, h => by
    simp only [List.map_cons, PySem.W.keyToksAll, PySem.W.keyToks, List.cons_append, List.nil_append] at h
    injection h with _ h
    injection h with q1 h
    rw [str_eq (Sum.inr.inj q1), toks_ln h]
theorem ln_anti {a b : List Str} (h1 : leL a b = true) (h2 : leL b a = true) : a = b := by
  have e1 : (listOrd itemOrd).blt (PySem.W.keyToks (lnD b)) (PySem.W.keyToks (lnD a)) = false := Bool.not_eq_true' _ |>.mp h1
  have e2 : (listOrd itemOrd).blt (PySem.W.keyToks (lnD a)) (PySem.W.keyToks (lnD b)) = false := Bool.not_eq_true' _ |>.mp h2
  have e := (listOrd itemOrd).total _ _ e2 e1
  unfold lnD at e
  rw [PySem.W.keyToks, PySem.W.keyToks] at e
  exact toks_ln e
theorem sortL_same {a b : List (List Str)} (p : a.Perm b) : sortL a = sortL b :=
  List.Perm.eq_of_pairwise (le := fun a b => leL a b = true) (fun _ _ _ _ h1 h2 => ln_anti h1 h2) (List.pairwise_mergeSort (dle_trans lnD) (dle_total lnD) a) (List.pairwise_mergeSort (dle_trans lnD) (dle_total lnD) b)
    ((sortL_perm a).trans (p.trans (sortL_perm b).symm))
def rSortItK : List V → Hp → VK → Prop := fun vs H Q => ∃ (p a : Addr) (cs : List (Str × Nat)), vs = [.ref p] ∧ H p = some (L2.DX.itemsO p a) ∧ H a = some (.dK (cs.map fun c => (Sum.inr c.1, V.int (c.2 : Int)))) ∧ cs.length < 64 ∧ cs ≠ [] ∧
  ∀ (H' : Hp) (l : Addr) (qs : List (Addr × Str × Nat)), Same H H' → H l = none → H' l = some (.lst (qs.map fun q => V.ref q.1)) → (∀ q ∈ qs, H' q.1 = some (.tup [.str q.2.1, .int (q.2.2 : Int)])) → qs.map (·.2) = srtP cs → Q (.ref l) H'
theorem zip_snd {α β : Type} : ∀ (as : List α) (cs : List β), as.length = cs.length → (as.zip cs).map (·.2) = cs ∧ (as.zip cs).map (·.1) = as
  | [], [], _ => ⟨rfl, rfl⟩
  | [], _ :: _, h => by simp at h
  | _ :: _, [], h => by simp at h
  | a :: as, c :: cs, h => by
    obtain ⟨e1, e2⟩ := zip_snd as cs (by simpa using h)
    exact ⟨by rw [List.zip_cons_cons, List.map_cons, e1], by rw [List.zip_cons_cons, List.map_cons, e2]⟩
theorem each_self {α β : Type} {R : α → β → Prop} {f : β → α} : ∀ (bs : List β), (∀ b ∈ bs, R (f b) b) → PySem.W.EachIs R (bs.map f) bs
  | [], _ => .nil
  | b :: bs, h => .cons (h b List.mem_cons_self) (each_self bs fun c hc => h c (List.mem_cons_of_mem _ hc))
theorem refs_each : ∀ {out : List Value} {bs : List (Addr × Str × Nat)}, PySem.W.EachIs (fun v (b : Addr × Str × Nat) => v = Value.ref b.1) out bs → out = bs.map fun b => Value.ref b.1
  | _, _, .nil => rfl
  | _, _, .cons h1 t => by rw [List.map_cons, h1, refs_each t]
theorem cr_sortItK {X : Cx} (hc : X.calm = true) {k : Nat} (hr : Room k X.A) : CallR X (.builtin "sorted") rSortItK := by
  intro pins s σ H vs us Q I r h
  obtain ⟨p, a, cs, rfl, hp, ha, h64, hne, q⟩ := h
  obtain rfl := Vals.ref1 r
  have view : s.heap.IsItemsView p a := (show ObjOk X.prog X.w H s.heap p (L2.DX.itemsO p a) from I.hok p _ hp).1
  obtain ⟨hz, hs0, ws, kv, hdo⟩ := (show ObjOk X.prog X.w H s.heap a (.dK (cs.map fun c => (Sum.inr c.1, V.int (c.2 : Int)))) from I.hok a _ ha)
  obtain ⟨ep, hat⟩ := hdo.dictAt
  have lk : cs.length = ws.length := by
    have := Paired.length kv
    rwa [List.length_map] at this
  have un := hr.un
  refine Calls.call_function_entry kind_sorted plain_sorted entry_sorted (args_sorted1 _) ?_
  unfold Builtin.«sorted»
  refine wpAny_bind (m := checkCount "sorted" 1 1 _) (wpAny_pure ?_)
  refine wpAny_bind (PySem.W.kdx_collect (A := X.A.in1) (knd := mixKind X.prog X.w) (kvs := ws) (ep := ep) (I.ok.hd hc) view hat (by rw [sizeLine_eq]; omega) fun h' tk as hk hl hG => ?_)
  have la : as.length = cs.length := by omega
  obtain ⟨zs, zf⟩ := zip_snd as cs la
  have pr : ∀ b ∈ as.zip cs, ∃ t1 t2, h'.get? b.1 = some { cls := .type "tuple", data := .seq #[.str b.2.1 t1, .int (b.2.2 : Int) t2] } := fun b hb => by
    obtain ⟨j, hj, rfl⟩ := List.getElem_of_mem hb
    rw [List.length_zip] at hj
    have e1 : as[j]? = some (as.zip cs)[j].1 := by rw [List.getElem_zip, List.getElem?_eq_getElem (by omega)]
    obtain ⟨key, kk, x, f1, f2, f3⟩ := hG.pairs j _ e1
    have e2 : (cs.map fun c => ((Sum.inr c.1, V.int (c.2 : Int)) : Key × V))[j]? = some (Sum.inr (as.zip cs)[j].2.1, V.int ((as.zip cs)[j].2.2 : Int)) := by
      rw [List.getElem?_map, List.getElem_zip, List.getElem?_eq_getElem (by omega)]
      rfl
    obtain ⟨y, g1, g2, g3⟩ := LiI.paired_get kv e2
    rw [f1] at g1
    obtain rfl := Option.some.inj g1
    dsimp only at g2 g3
    subst g2
    obtain ⟨t2, rfl⟩ := g3
    obtain ⟨t1, rfl⟩ : ∃ t, key = .str (as.zip cs)[j].2.1 t := relV_key (show keyIs (Sum.inr (as.zip cs)[j].2.1) key = true from f2)
    exact ⟨t1, t2, f3⟩
  have hvs : as.map Value.ref = (as.zip cs).map fun b => Value.ref b.1 := by
    have : (as.zip cs).map (fun b => Value.ref b.1) = ((as.zip cs).map (·.1)).map Value.ref := by rw [List.map_map]; rfl
    rw [this, zf]
  have lz : (as.zip cs).length = cs.length := by rw [List.length_zip]; omega
  refine wpAny_bind (wpAny_newList ?_ (by rw [List.length_map, la, sizeLine_eq]; omega))
  have hoL : (h'.push (seqObj "list" (as.map Value.ref).toArray 0)).get? h'.objs.size = some (seqObj "list" (as.map Value.ref).toArray 0) := Heap.get?_push_size _ rfl
  have keep0 : ∀ b o, h'.get? b = some o → (PySem.W.sortingHeap (h'.push (seqObj "list" (as.map Value.ref).toArray 0)) h'.objs.size (as.map Value.ref)).get? b = some o := fun b o e => PySem.W.sortingHeap_old (Nat.ne_of_lt (Heap.lt_size e)) (Heap.get?_push_of_some _ e)
  have er : PySem.W.EachIs (fun v (b : Addr × Str × Nat) => ∃ as', Reads (PySem.W.sortingHeap (h'.push (seqObj "list" (as.map Value.ref).toArray 0)) h'.objs.size (as.map Value.ref)) v (prD b.2) as') (as.map Value.ref) (as.zip cs) := by
    conv => arg 2; rw [hvs]
    refine each_self (f := fun b : Addr × Str × Nat => Value.ref b.1) _ fun b hb => ?_
    obtain ⟨t1, t2, e⟩ := pr b hb
    exact ⟨_, .tuple (keep0 _ _ e) rfl rfl (.cons (.str _ _) (.cons (.int _ _) .nil))⟩
  have ei : PySem.W.EachIs (fun v (b : Addr × Str × Nat) => v = Value.ref b.1) (as.map Value.ref) (as.zip cs) := by
    rw [hvs]
    exact each_self (f := fun b : Addr × Str × Nat => Value.ref b.1) _ fun b hb => rfl
  have hal : PySem.W.AllAlike ((as.zip cs).map fun b => prD b.2) := fun d hd d' hd' => by
    obtain ⟨b, _, rfl⟩ := List.mem_map.mp hd
    obtain ⟨b', _, rfl⟩ := List.mem_map.mp hd'
    exact alike_pr b.2 b'.2
  have hso : PySem.W.Sortable ((as.zip cs).map fun b => prD b.2) := .inl fun d hd => by
    obtain ⟨b, _, rfl⟩ := List.mem_map.mp hd
    exact ⟨_, _, rfl⟩
  have hb1 : ∀ d ∈ ((as.zip cs).map fun b => prD b.2), d.depth ≤ 1 := fun d hd => by
    obtain ⟨b, _, rfl⟩ := List.mem_map.mp hd
    simp [prD, PyData.depth, PyData.depthAll]
  refine wpAny_bind (wpAny_holding (wpAny_call_entry slot_list_sort ⟨_, hoL, rfl⟩ entry_list_sort
    (PySem.W.list_sort_vals (κ := PySem.W.dataKind (PySem.W.sortingHeap (h'.push (seqObj "list" (as.map Value.ref).toArray 0)) h'.objs.size (as.map Value.ref)) ((as.zip cs).map fun b => prD b.2)) hoL
      (PySem.W.SortsAt.data (s := { s with heap := PySem.W.sortingHeap (h'.push (seqObj "list" (as.map Value.ref).toArray 0)) h'.objs.size (as.map Value.ref), toks := tk }) (PySem.W.each_map (R := fun v d => ∃ as', Reads (PySem.W.sortingHeap (h'.push (seqObj "list" (as.map Value.ref).toArray 0)) h'.objs.size (as.map Value.ref)) v d as') (fun b : Addr × Str × Nat => prD b.2) er) hal hso fun d hd => by
        have := hb1 d hd
        show X.A.units + 1 + 1 + d.depth < cLine
        omega) (by rw [List.length_map, la, sizeLine_eq]; omega) ⟨_, rfl, ?_⟩) (args_list_sort _)))
  have outE := PySem.W.sortVals_data false ei er hal
  generalize PySem.W.sortVals (PySem.W.dataKind (PySem.W.sortingHeap (h'.push (seqObj "list" (as.map Value.ref).toArray 0)) h'.objs.size (as.map Value.ref)) ((as.zip cs).map fun b => prD b.2)) false (as.map Value.ref) (as.map Value.ref) = out at outE ⊢
  have eo := refs_each outE
  have hqm : ∀ b, b ∈ (as.zip cs).mergeSort (PySem.W.dataLe false fun b => prD b.2) ↔ b ∈ as.zip cs := fun b => (List.mergeSort_perm _ _).mem_iff
  have hql : ((as.zip cs).mergeSort (PySem.W.dataLe false fun b => prD b.2)).length = cs.length := by rw [List.length_mergeSort, lz]
  have hqs : ((as.zip cs).mergeSort (PySem.W.dataLe false fun b => prD b.2)).map (·.2) = srtP cs := by
    have e : ((as.zip cs).mergeSort (PySem.W.dataLe false fun b => prD b.2)).map (·.2) = ((as.zip cs).map (·.2)).mergeSort (PySem.W.dataLe false prD) := List.map_mergeSort (f := fun b : Addr × Str × Nat => b.2) fun _ _ _ _ => rfl
    rw [e, zs]
    rfl
  generalize (as.zip cs).mergeSort (PySem.W.dataLe false fun b => prD b.2) = qs at hqm hql hqs eo
  subst eo
  have kF : ∀ b o, b ≠ h'.objs.size → h'.get? b = some o → (sortedHeap (h'.push (seqObj "list" (as.map Value.ref).toArray 0)) h'.objs.size (as.map Value.ref) (qs.map fun b => Value.ref b.1).toArray).get? b = some o := fun b o hb e => (sortedHeap_old hb (Nat.lt_of_lt_of_le (Heap.lt_size e) (by rw [size_push']; exact Nat.le_succ _))).trans (Heap.get?_push_of_some _ e)
  have kS : ∀ b o, s.heap.get? b = some o → (sortedHeap (h'.push (seqObj "list" (as.map Value.ref).toArray 0)) h'.objs.size (as.map Value.ref) (qs.map fun b => Value.ref b.1).toArray).get? b = some o := fun b o e => kF b o (Nat.ne_of_lt (Heap.lt_size (hk b o e))) (hk b o e)
  obtain ⟨eF, heF⟩ := sortedHeap_at (vs := as.map Value.ref) (out := (qs.map fun b => Value.ref b.1).toArray) hoL
  have hlt : s.heap.objs.size ≤ h'.objs.size := by
    cases e : as with
    | nil =>
      rw [e] at la
      exact absurd (List.length_eq_zero_iff.mp la.symm) hne
    | cons b r =>
      have hb : b ∈ as := by rw [e]; exact List.mem_cons_self
      exact Nat.le_of_lt (Nat.lt_trans (hG.above b hb) (hG.there hb))
  have hn0 : H h'.objs.size = none := I.hok.fresh hlt
  have nd : as.Nodup := List.Pairwise.imp (fun {a b} (h : a < b) => Nat.ne_of_lt h) hG.rise
  generalize hFH : sortedHeap (h'.push (seqObj "list" (as.map Value.ref).toArray 0)) h'.objs.size (as.map Value.ref) (qs.map fun b => Value.ref b.1).toArray = hF at kF kS heF
  have I1 : Inv X pins σ H { s with heap := hF, toks := tk } := I.kept (t' := tk) kS
  have I2 : Inv X pins σ (upd H h'.objs.size (.lst (qs.map fun q => V.ref q.1))) { s with heap := hF, toks := tk } :=
    I1.take (h' := hF) (t' := tk) (fun b ob _ e => e) (I.fpOk hlt hn0) ⟨by rw [List.length_map, hql, sizeLine_eq]; omega, (qs.map fun b => Value.ref b.1), eF, by
      have : ∀ l : List (Addr × Str × Nat), Vals (l.map fun q => V.ref q.1) (l.map fun b => Value.ref b.1) := fun l => by
        induction l with
        | nil => exact .nil
        | cons b r ih => exact .cons rfl ih
      exact this qs, heF⟩
  obtain ⟨H2, I3, g, qt⟩ := L2.DX.takeT (P := fun b vs => ∃ c : Str × Nat, (b, c) ∈ as.zip cs ∧ vs = [.str c.1, .int (c.2 : Int)]) I as _ I2 nd fun b hb => by
    obtain ⟨c, hc⟩ : ∃ c, (b, c) ∈ as.zip cs := by
      rw [← zf] at hb
      obtain ⟨z, hz, rfl⟩ := List.mem_map.mp hb
      exact ⟨z.2, hz⟩
    obtain ⟨t1, t2, hg⟩ := pr (b, c) hc
    have hbl : s.heap.objs.size ≤ b := Nat.le_of_lt (hG.above b hb)
    have hbn : b ≠ h'.objs.size := Nat.ne_of_lt (Heap.lt_size hg)
    refine ⟨hbl, ?_, [.str c.1, .int (c.2 : Int)], ⟨c, hc, rfl⟩, fun H3 => ⟨(by show 2 ≤ sizeLine; decide), [.str c.1 t1, .int (c.2 : Int) t2], .cons ⟨_, rfl⟩ (.cons ⟨_, rfl⟩ .nil), ⟨_, kF _ _ hbn hg, rfl, 0, rfl⟩⟩⟩
    rw [upd_ne hbn]
    exact I.hok.fresh hbl
  have gr : Same H H2 := fun b o e => g b o (by rw [upd_ne (ne_of_none e hn0)]; exact e)
  refine wpAny_pure ⟨_, rfl, .ref h'.objs.size, H2, ?_, rfl, q H2 h'.objs.size qs gr hn0 (g _ _ upd_same) (fun z hz => ?_) hqs⟩
  · exact I3
  · have hz' := (hqm z).mp hz
    obtain ⟨vs, ⟨c, hc, rfl⟩, hH⟩ := qt z.1 (List.of_mem_zip hz').1
    have : c = z.2 := by
      obtain ⟨i, hi, ei⟩ := List.getElem_of_mem hz'
      obtain ⟨j, hj, ej⟩ := List.getElem_of_mem hc
      rw [List.length_zip] at hi hj
      rw [List.getElem_zip] at ei ej
      have e1 : as[i]? = as[j]? := by
        rw [List.getElem?_eq_getElem (by omega), List.getElem?_eq_getElem (by omega)]
        have a1 := congrArg Prod.fst ei
        have a2 := congrArg Prod.fst ej
        exact congrArg some (a1.trans a2.symm)
      have eij := (List.getElem?_inj (by omega) nd).mp e1
      subst eij
      have a1 := congrArg Prod.snd ei
      have a2 := congrArg Prod.snd ej
      exact a2.symm.trans a1
    rw [this] at hH
    exact hH
end Vf

set_option maxRecDepth 100000
set_option maxHeartbeats 4000000
namespace Vf
open PySem PySem.Spec PyProof.Rows L2
def rRepr (K : PySem.W.Frag) : List V → Hp → VK → Prop := fun xs H Q => ∃ (a : Addr) (d : PyData), xs = [.ref a] ∧ Dp K H (.ref a) d ∧ d.showable = true ∧ d.hasDict = false ∧ d.depth ≤ 64 ∧ d.shown.length ≤ sizeLine ∧ Q (.str d.shown) H
theorem cr_repr {X : Cx} (hgd : Calm X.A) {k : Nat} (hr : Room k X.A) : CallR X (.builtin "repr") (rRepr X.K) := by
  intro pins s σ H vs us Q I r h
  obtain ⟨a, d, rfl, hd, sh, nod, dep, hz, q⟩ := h
  obtain ⟨u, rfl, r1⟩ := vals1 r
  obtain ⟨as, rd⟩ := Dp.reads I d (.ref a) u hd r1
  obtain rfl : u = Value.ref a := r1
  have room := hr.un
  refine repr_of_reads' rd sh (fun z => by rw [nod] at z; cases z) hgd (by omega) (fun _ _ e => e) (fun h' u tk keep => ?_) hz
  exact ⟨.str d.shown, H, I.kept (t' := tk) keep, ⟨u, rfl⟩, q⟩
mutual
/-- data that can be shown: small numbers, texts, lists and tuples -/
def shD : PyData → Bool
  | .none => true
  | .bool _ => true
  | .int i => decide (0 ≤ i) && decide (i < 1000000)
  | .str x => PyData.strOk x
  | .list xs => shAll xs
  | .tuple xs => shAll xs
  | .dict _ => false
def shAll : List PyData → Bool
  | [] => true
  | x :: xs => shD x && shAll xs
end
theorem int_short {i : Int} (h : 0 ≤ i) (h2 : i < 1000000) : (PyData.int i).shown.length ≤ 13 ∧ i.natAbs.log2 < 1920 := by
  obtain ⟨k, rfl⟩ := Int.eq_ofNat_of_zero_le h
  have hk : k < 1000000 := by omega
  constructor
  · show (natS k).length ≤ 13
    rw [TL.len_tl, tl_natS]
    exact Nat.le_trans (TL.numL_len (k := 6) (by decide) (by simpa using hk)) (by decide)
  · show k.log2 < 1920
    by_cases h0 : k = 0
    · subst h0
      decide
    · exact Nat.lt_of_lt_of_le ((Nat.log2_lt h0).mpr (show k < 2 ^ 20 by omega)) (by decide)
mutual
theorem sh_show : ∀ d : PyData, shD d = true → d.showable = true ∧ d.hasDict = false ∧ d.leavesShort 13 = true
  | .none, _ => ⟨rfl, rfl, rfl⟩
  | .bool _, _ => ⟨rfl, rfl, rfl⟩
  | .int i, h => by
    simp only [shD, Bool.and_eq_true, decide_eq_true_eq] at h
    obtain ⟨h1, h2⟩ := int_short h.1 h.2
    exact ⟨by simpa [PyData.showable] using h2, rfl, by simpa [PyData.leavesShort] using h1⟩
  | .str x, h => by
    refine ⟨rfl, rfl, ?_⟩
    simp only [shD, PyData.strOk] at h
    rw [← Array.all_toList, List.all_eq_true] at h
    simp only [PyData.leavesShort, List.all_eq_true, decide_eq_true_eq]
    intro c hc
    have := h c hc
    simp only [decide_eq_true_eq] at this
    have e : (16 : Nat) ^ 8 = 4294967296 := by decide
    omega
  | .list xs, h => by
    have := sh_showAll xs (by simpa [shD] using h)
    simpa [PyData.showable, PyData.hasDict, PyData.leavesShort] using this
  | .tuple xs, h => by
    have := sh_showAll xs (by simpa [shD] using h)
    simpa [PyData.showable, PyData.hasDict, PyData.leavesShort] using this
  | .dict _, h => by simp [shD] at h
theorem sh_showAll : ∀ xs : List PyData, shAll xs = true → PyData.showableAll xs = true ∧ PyData.hasDictAll xs = false ∧ PyData.leavesShortAll 13 xs = true
  | [], _ => ⟨rfl, rfl, rfl⟩
  | x :: xs, h => by
    simp only [shAll, Bool.and_eq_true] at h
    obtain ⟨a1, a2, a3⟩ := sh_show x h.1
    obtain ⟨b1, b2, b3⟩ := sh_showAll xs h.2
    simp [PyData.showableAll, PyData.hasDictAll, PyData.leavesShortAll, a1, a2, a3, b1, b2, b3]
end
theorem shown_fits {d : PyData} (h : shD d = true) (hw : d.weight ≤ 1000000) : d.shown.length ≤ sizeLine := by
  have := PyData.shown_le 13 (by decide) d (sh_show d h).2.2
  rw [sizeLine_eq]
  omega
end Vf

set_option maxRecDepth 100000
set_option maxHeartbeats 4000000
namespace Vf
open PySem PySem.Spec PyProof.Rows L2 PyProof.V 
def keyD : Key → PyData
  | .inl i => .int i
  | .inr x => .str x
def atomD : V → Option PyData
  | .non => some .none
  | .bl b => some (.bool b)
  | .int i => some (.int i)
  | .str x => some (.str x)
  | _ => none
theorem atom_reads {h : Heap} {v : V} {u : Value} {d : PyData} (e : atomD v = some d) (r : RelV v u) : Reads h u d [] := by
  cases v with
  | non =>
    obtain rfl := Option.some.inj e
    obtain rfl : u = Value.none := r
    exact .none
  | bl b =>
    obtain rfl := Option.some.inj e
    obtain rfl : u = Value.bool b := r
    exact .bool b
  | int i =>
    obtain rfl := Option.some.inj e
    obtain ⟨t, rfl⟩ : ∃ t, u = Value.int i t := r
    exact .int i t
  | str x =>
    obtain rfl := Option.some.inj e
    obtain ⟨t, rfl⟩ : ∃ t, u = Value.str x t := r
    exact .str x t
  | _ => cases e
theorem key_reads {h : Heap} {k : Key} {u : Value} (e : keyIs k u = true) : Reads h u (keyD k) [] := by
  rcases keyIs_shape e with ⟨i, t, rfl, rfl⟩ | ⟨x, t, rfl, rfl⟩
  · exact .int i t
  · exact .str x t
/-- what a dict of atoms reads as -/
inductive FlatD : List (Key × V) → List (PyData × PyData) → Prop
  | nil : FlatD [] []
  | cons {k : Key} {v : V} {d : PyData} {kvs : List (Key × V)} {ds : List (PyData × PyData)} : atomD v = some d → FlatD kvs ds → FlatD ((k, v) :: kvs) ((keyD k, d) :: ds)
theorem pairs_of {h : Heap} : ∀ {kvs : List (Key × V)} {ds : List (PyData × PyData)} {vs : List (Key × Value)}, FlatD kvs ds → KV kvs vs → PairsRead h keyD vs ds []
  | _, _, _, .nil, h => by
    cases h
    exact .nil
  | _, _, _, .cons e f, h => by
    cases h with
    | @cons _ q _ _ h1 h2 =>
      obtain ⟨k', u⟩ := q
      obtain ⟨rfl, r⟩ := h1
      exact .cons (atom_reads e r) (pairs_of f h2)
def rReprFlat : List V → Hp → VK → Prop := fun xs H Q => ∃ (a : Addr) (kvs : List (Key × V)) (ds : List (PyData × PyData)), xs = [.ref a] ∧ H a = some (.dK kvs) ∧ FlatD kvs ds ∧ (PyData.dict ds).showable = true ∧ (PyData.dict ds).depth ≤ 64 ∧ (PyData.dict ds).shown.length ≤ sizeLine ∧ Q (.str (PyData.dict ds).shown) H
theorem cr_reprFlat {X : Cx} (hgd : Calm X.A) {k : Nat} (hr : Room k X.A) : CallR X (.builtin "repr") rReprFlat := by
  intro pins s σ H vs us Q I r h
  obtain ⟨a, kvs, ds, rfl, ha, fl, sh, dep, hz, q⟩ := h
  obtain ⟨u, rfl, r1⟩ := vals1 r
  obtain rfl : u = Value.ref a := r1
  have room := hr.un
  have ok : ObjOk X.prog X.w H s.heap a (.dK kvs) := I.hok a _ ha
  obtain ⟨_, away, ws, kv, dict⟩ := ok
  have rd := reads_dictOf (enc := keyD) (fun k key e => key_reads e) dict (pairs_of fl kv)
  refine repr_of_reads' rd sh (fun _ z => ?_) hgd (by omega) (fun _ _ e => e) (fun h' u tk keep => ?_) hz
  · rw [List.mem_singleton] at z
    rw [← z] at away
    simp at away
  · exact ⟨.str (PyData.dict ds).shown, H, I.kept (t' := tk) keep, ⟨u, rfl⟩, q⟩
end Vf

set_option maxRecDepth 100000
set_option maxHeartbeats 8000000
namespace Vf
open PySem PySem.Spec PyProof.Rows L2
/-- what repr tells of a value -/
inductive ReprIs (K : PySem.W.Frag) (H : Hp) : V → Str → Prop
  | non : ReprIs K H .non "None"
  | bl (b : Bool) : ReprIs K H (.bl b) (if b then "True" else "False")
  | int {i : Int} : i.natAbs.log2 < 1920 → ReprIs K H (.int i) (toString i)
  | str {x : Str} : (PySem.reprText x).length ≤ sizeLine → ReprIs K H (.str x) (PySem.reprText x)
  | dat {a : Addr} {d : PyData} : Dp K H (.ref a) d → d.showable = true → d.hasDict = false → d.depth ≤ 64 → d.shown.length ≤ sizeLine → ReprIs K H (.ref a) d.shown
  | dic {a : Addr} {kvs : List (Key × V)} {ds : List (PyData × PyData)} : H a = some (.dK kvs) → FlatD kvs ds → (PyData.dict ds).showable = true → (PyData.dict ds).depth ≤ 64 → (PyData.dict ds).shown.length ≤ sizeLine → ReprIs K H (.ref a) (PyData.dict ds).shown
theorem cr_reprA {X : Cx} (hgd : Calm X.A) {k : Nat} (hr : Room k X.A) : CallR X (.builtin "repr") (fun xs H Q => ∃ x z, xs = [x] ∧ ReprIs X.K H x z ∧ Q (.str z) H) := by
  intro pins s σ H vs us Q I r h
  obtain ⟨x, z, rfl, hx, q⟩ := h
  cases hx with
  | non =>
    obtain ⟨u, rfl, ru⟩ := vals1 r
    obtain rfl : u = Value.none := ru
    exact PySem.P.repr_of_none ⟨.str _, H, I.tok _, ⟨_, rfl⟩, q⟩
  | bl b =>
    obtain ⟨u, rfl, ru⟩ := vals1 r
    obtain rfl : u = Value.bool b := ru
    exact PySem.P.repr_of_bool ⟨.str _, H, I.tok _, ⟨_, rfl⟩, q⟩
  | int hz =>
    obtain ⟨u, rfl, t, rfl⟩ := vals1 r
    exact PySem.P.repr_of_int hz ⟨.str _, H, I.tok _, ⟨_, rfl⟩, q⟩
  | str hz =>
    obtain ⟨u, rfl, t, rfl⟩ := vals1 r
    exact PySem.P.repr_of_str ⟨.str _, H, I.tok _, ⟨_, rfl⟩, q⟩ hz
  | dat h1 h2 h3 h4 h5 => exact cr_repr hgd hr pins s σ H _ us Q I r ⟨_, _, rfl, h1, h2, h3, h4, h5, q⟩
  | dic h1 h2 h3 h4 h5 => exact cr_reprFlat hgd hr pins s σ H _ us Q I r ⟨_, _, _, rfl, h1, h2, h3, h4, h5, q⟩
end Vf

set_option maxRecDepth 100000
set_option maxHeartbeats 8000000
namespace Vf
open PySem PySem.Spec PyProof.Rows L2
theorem inV_str (z : Str) : ∀ ws : List Str, inV (.str z) (ws.map V.str) = decide (z ∈ ws)
  | [] => rfl
  | y :: ws => by
    have ih := inV_str z ws
    unfold inV at ih ⊢
    rw [List.map_cons, List.any_cons, ih]
    show (eqV (V.str y) (V.str z) || decide (z ∈ ws)) = _
    by_cases e : y = z
    · subst e
      rw [decide_eq_true (p := y ∈ y :: ws) List.mem_cons_self]
      have : eqV (V.str y) (V.str y) = true := by simp [eqV]
      rw [this, Bool.true_or]
    · have : eqV (V.str y) (V.str z) = false := by simp [eqV, e]
      rw [this, Bool.false_or]
      exact decide_eq_decide.mpr ⟨List.mem_cons_of_mem _, fun h => (List.mem_cons.mp h).resolve_left fun q => e q.symm⟩
theorem flat_strs2 : ∀ ws : List Str, (ws.map V.str).all flatV = true
  | [] => rfl
  | _ :: ws => by rw [List.map_cons, List.all_cons, flat_strs2 ws]; rfl
structure GoodLs (ls : List (List Str)) : Prop where
  few : ls.length ≤ 6
  short : ∀ ws ∈ ls, ws.length ≤ 6
  name : ∀ ws ∈ ls, ∀ z ∈ ws, isNameT z = true
theorem GoodLs.ok {ls : List (List Str)} (g : GoodLs ls) : ∀ ws ∈ ls, ∀ z ∈ ws, PyData.strOk z = true := fun ws hw z hz => ok_name (g.name ws hw z hz)
theorem sh_strs : ∀ {ws : List Str}, (∀ z ∈ ws, isNameT z = true) → shAll (ws.map PyData.str) = true ∧ PyData.weightAll (ws.map PyData.str) ≤ 9 * ws.length
  | [], _ => ⟨rfl, by simp [PyData.weightAll]⟩
  | z :: ws, h => by
    obtain ⟨a, b⟩ := sh_strs (ws := ws) fun y hy => h y (List.mem_cons_of_mem _ hy)
    have hz := h z List.mem_cons_self
    have h8 := (name_len hz).2
    have e : z.cps.size = z.length := rfl
    simp only [List.map_cons, shAll, shD, ok_name hz, a, PyData.weightAll, PyData.weight, List.length_cons, e]
    exact ⟨rfl, by omega⟩
theorem sh_lines : ∀ {ls : List (List Str)}, (∀ ws ∈ ls, ws.length ≤ 6) → (∀ ws ∈ ls, ∀ z ∈ ws, isNameT z = true) → shAll (ls.map lnD) = true ∧ PyData.weightAll (ls.map lnD) ≤ 60 * ls.length
  | [], _, _ => ⟨rfl, by simp [PyData.weightAll]⟩
  | ws :: ls, h1, h2 => by
    obtain ⟨a, b⟩ := sh_lines (ls := ls) (fun y hy => h1 y (List.mem_cons_of_mem _ hy)) fun y hy => h2 y (List.mem_cons_of_mem _ hy)
    obtain ⟨c, d⟩ := sh_strs (h2 ws List.mem_cons_self)
    have := h1 ws List.mem_cons_self
    simp only [List.map_cons, lnD, shAll, shD, c, PyData.weightAll, PyData.weight, List.length_cons, Bool.true_and]
    exact ⟨a, by omega⟩
theorem repr_lines {K : PySem.W.Frag} {H : Hp} {t : Addr} {qs : List (Addr × List Str)} (h : LinesAt H t qs) (g : GoodLs (qs.map Prod.snd)) : ReprIs K H (.ref t) (linesD (qs.map Prod.snd)).shown := by
  obtain ⟨a, b⟩ := sh_lines g.short g.name
  have sh : shD (linesD (qs.map Prod.snd)) = true := by simp only [linesD, shD]; exact a
  obtain ⟨h1, h2, _⟩ := sh_show _ sh
  have few := g.few
  refine .dat h.dp h1 h2 ?_ (shown_fits sh ?_)
  · have := depth_lines (qs.map Prod.snd)
    simp only [linesD, PyData.depth]
    omega
  · simp only [linesD, PyData.weight]
    omega
theorem log_le {n : Nat} (h : n < 1000000) : ((n : Int)).natAbs.log2 < 1920 := (int_short (i := (n : Int)) (by omega) (by omega)).2
theorem wt_int {n : Nat} (h : n ≤ 8) : (if ((n : Int) == 0) = true then 0 else ((n : Int)).natAbs.log2 + 1) ≤ 5 := by
  split
  · omega
  · have h0 : n ≠ 0 := fun z => by simp_all
    have : n.log2 < 4 := (Nat.log2_lt h0).mpr (by omega)
    show n.log2 + 1 ≤ 5
    omega
theorem sh_pairs : ∀ {cs : List (Str × Nat)}, (∀ c ∈ cs, isNameT c.1 = true ∧ c.2 ≤ 8) → shAll (cs.map prD) = true ∧ PyData.weightAll (cs.map prD) ≤ 30 * cs.length ∧ PyData.depthAll (cs.map prD) ≤ 1
  | [], _ => ⟨rfl, by simp [PyData.weightAll], by simp [PyData.depthAll]⟩
  | c :: cs, h => by
    obtain ⟨a, b, d⟩ := sh_pairs (cs := cs) fun y hy => h y (List.mem_cons_of_mem _ hy)
    obtain ⟨hz, h8⟩ := h c List.mem_cons_self
    have l8 := (name_len hz).2
    have e : c.1.cps.size = c.1.length := rfl
    have w5 := wt_int h8
    simp only [List.map_cons, prD, shAll, shD, ok_name hz, PyData.weightAll, PyData.weight, PyData.depthAll, PyData.depth, List.length_cons, e]
    rw [decide_eq_true (p := (0 : Int) ≤ (c.2 : Int)) (by omega), decide_eq_true (p := (c.2 : Int) < 1000000) (by omega)]
    refine ⟨a, ?_, ?_⟩
    · omega
    · omega
theorem dp_pairs {K : PySem.W.Frag} {H : Hp} : ∀ {qs : List (Addr × Str × Nat)}, (∀ q ∈ qs, H q.1 = some (.tup [.str q.2.1, .int (q.2.2 : Int)])) → DpAll K H (qs.map fun q => V.ref q.1) ((qs.map (·.2)).map prD)
  | [], _ => .nil
  | q :: qs, h => .cons (.tup (SqT.of (h q List.mem_cons_self)) (.cons (.str _) (.cons (.int _) .nil))) (dp_pairs fun z hz => h z (List.mem_cons_of_mem _ hz))
theorem repr_pairs {K : PySem.W.Frag} {H : Hp} {l : Addr} {qs : List (Addr × Str × Nat)} (hl : H l = some (.lst (qs.map fun q => V.ref q.1))) (ht : ∀ q ∈ qs, H q.1 = some (.tup [.str q.2.1, .int (q.2.2 : Int)])) (few : qs.length ≤ 6) (g : ∀ c ∈ qs.map (·.2), isNameT c.1 = true ∧ c.2 ≤ 8) :
    ReprIs K H (.ref l) (PyData.list ((qs.map (·.2)).map prD)).shown := by
  obtain ⟨a, b, c⟩ := sh_pairs g
  have sh : shD (PyData.list ((qs.map (·.2)).map prD)) = true := by simp only [shD]; exact a
  obtain ⟨h1, h2, _⟩ := sh_show _ sh
  have hl2 : (qs.map (·.2)).length = qs.length := List.length_map ..
  refine .dat (.lst (SqL.of hl) (dp_pairs ht)) h1 h2 ?_ (shown_fits sh ?_)
  · simp only [PyData.depth]
    omega
  · simp only [PyData.weight]
    omega
theorem linesOf_good {ps : List (Addr × List Str)} {cs : List (Str × Nat)} (g : GoodCs cs) (perm : (ps.flatMap Prod.snd).Perm (cs.map Prod.fst)) (ne : ∀ p ∈ ps, p.2 ≠ []) : GoodLs (linesOf ps) := by
  have l6 : (ps.flatMap Prod.snd).length ≤ 6 := by
    have := perm.length_eq
    rw [List.length_map] at this
    have := g.few
    omega
  have hm : ∀ ws ∈ linesOf ps, ∃ p ∈ ps, ws = srt p.2 := fun ws hw => by
    obtain ⟨p, hp, e⟩ := List.mem_map.mp ((sortL_perm _).mem_iff.mp hw)
    exact ⟨p, hp, e.symm⟩
  refine ⟨?_, fun ws hw => ?_, fun ws hw z hz => ?_⟩
  · unfold linesOf
    rw [(sortL_perm _).length_eq, List.length_map]
    exact Nat.le_trans (flat_len ne) l6
  · obtain ⟨p, hp, rfl⟩ := hm ws hw
    rw [(srt_perm _).length_eq]
    exact Nat.le_trans (flat_part hp) l6
  · obtain ⟨p, hp, rfl⟩ := hm ws hw
    have hz' := perm.mem_iff.mp (List.mem_flatMap.mpr ⟨p, hp, (srt_perm _).mem_iff.mp hz⟩)
    obtain ⟨c, hc, rfl⟩ := List.mem_map.mp hz'
    exact g.name c hc
theorem linesOf_nodup {ps : List (Addr × List Str)} {cs : List (Str × Nat)} (g : GoodCs cs) (perm : (ps.flatMap Prod.snd).Perm (cs.map Prod.fst)) : (linesOf ps).flatten.Nodup := by
  have p1 : (linesOf ps).flatten.Perm (ps.map fun p => srt p.2).flatten := (sortL_perm _).flatten
  have p2 : ∀ ps : List (Addr × List Str), (ps.map fun p => srt p.2).flatten.Perm (ps.flatMap Prod.snd) := fun ps => by
    induction ps with
    | nil => exact .nil
    | cons a r ih =>
      rw [List.map_cons, List.flatten_cons, List.flatMap_cons]
      exact (srt_perm a.2).append ih
  exact ((p1.trans (p2 ps)).trans perm).nodup_iff.mpr g.nd
theorem num_keys : ∀ (ls : List (List Str)) (k : Nat), ((ls.zipIdx k).flatMap fun q => q.1.map fun z => ((Sum.inr z, V.int (q.2 : Int)) : Key × V)).map Prod.fst = ls.flatten.map Sum.inr
  | [], _ => rfl
  | w :: r, k => by
    rw [List.zipIdx_cons, List.flatMap_cons, List.map_append, num_keys r (k + 1), List.flatten_cons, List.map_append, List.map_map]
    rfl
theorem num_val {ls : List (List Str)} (nd : ls.flatten.Nodup) {i : Nat} {ws : List Str} {z : Str} (hi : ls[i]? = some ws) (hz : z ∈ ws) : valV (mergeK [] (numPr ls)) (Sum.inr z) = some (.int (i : Int)) := by
  have hk : ((numPr ls).map Prod.fst).Nodup := by
    unfold numPr
    rw [num_keys ls 0]
    exact nd.map _ fun _ _ h e => h (Sum.inr.inj e)
  rw [merge_nodup _ _ (by rw [List.nil_append]; exact hk), List.nil_append]
  refine val_mem hk ?_
  unfold numPr
  refine List.mem_flatMap.mpr ⟨(ws, i), ?_, List.mem_map.mpr ⟨z, hz, rfl⟩⟩
  exact List.mem_iff_getElem?.mpr ⟨i, by rw [List.getElem?_zipIdx, hi]; simp⟩
theorem line_has {ls : List (List Str)} {z : Str} (h : z ∈ ls.flatten) : ∃ (j : Nat) (ws : List Str), ls[j]? = some ws ∧ z ∈ ws := by
  obtain ⟨ws, h1, h2⟩ := List.mem_flatten.mp h
  obtain ⟨j, hj⟩ := List.mem_iff_getElem?.mp h1
  exact ⟨j, ws, hj, h2⟩
theorem line_one {ls : List (List Str)} (nd : ls.flatten.Nodup) {i j : Nat} {xs ys : List Str} {z : Str} (hi : ls[i]? = some xs) (hx : z ∈ xs) (hj : ls[j]? = some ys) (hy : z ∈ ys) : i = j := by
  have a := num_val nd hi hx
  rw [num_val nd hj hy] at a
  have := V.int.inj (Option.some.inj a)
  omega
theorem lineNo_at {ls : List (List Str)} (nd : ls.flatten.Nodup) {j : Nat} {ws : List Str} {z : Str} (hj : ls[j]? = some ws) (hz : z ∈ ws) : lineNo ls z = j := lineNo_of (num_val nd hj hz)
end Vf

set_option maxRecDepth 100000
set_option maxHeartbeats 8000000
namespace Vf
open PySem PySem.Spec PyProof.Rows L2
theorem op_inK {X : Cx} {K : PySem.W.Frag} (hK : X.K = K) : OpR X (compareOp .In) (rIn K false) := by
  subst hK
  exact op_in_seq
theorem catP {K : PySem.W.Frag} {H : Hp} {a b : Addr} {xs ys : List V} {Q : VK} (ha : H a = some (.tup xs)) (hb : H b = some (.tup ys)) (fit : xs.length + ys.length ≤ 1000) (h : ∀ p H', Same H H' → H' p = some (.tup (xs ++ ys)) → Q (.ref p) H') : rCatA K (.ref a) (.ref b) H Q := by
  refine ⟨a, b, xs, ys, rfl, rfl, SqT.of ha, SqT.of hb, by rw [sizeLine_eq]; omega, fun e => ?_, fun _ e => ?_, fun _ _ p hp => ?_⟩
  · subst e
    exact h b H (Same.refl _) hb
  · subst e
    exact h a H (Same.refl _) (by rw [List.append_nil]; exact ha)
  · exact h p _ (same_new hp) upd_same
theorem slP_left {K : PySem.W.Frag} {H : Hp} {a : Addr} {xs : List V} {i : Nat} {Q : VK} (ha : H a = some (.tup xs)) (hi : i < xs.length) (h : ∀ p H', Same H H' → H' p = some (.tup (xs.take i)) → Q (.ref p) H') : rSlA K (.ref a) none (some (i : Int)) H Q := by
  refine ⟨a, xs, rfl, SqT.of ha, fun e => ?_, fun _ p hp => ?_⟩
  · rw [HT.sIx_nat] at e
    omega
  · have e : cutV xs none (some (i : Int)) = xs.take i := by
      unfold cutV
      rw [HT.sIx_none, HT.sIx_nat, List.drop_zero, Nat.sub_zero, Nat.min_eq_left (by omega)]
    rw [e]
    exact h p _ (same_new hp) upd_same
theorem slP_right {K : PySem.W.Frag} {H : Hp} {a : Addr} {xs : List V} {i : Nat} {Q : VK} (ha : H a = some (.tup xs)) (hi : i < xs.length) (h : ∀ p H', Same H H' → H' p = some (.tup (xs.drop (i + 1))) → Q (.ref p) H') : rSlA K (.ref a) (some ((i : Int) + 1)) none H Q := by
  have e1 : ((i : Int) + 1) = ((i + 1 : Nat) : Int) := by omega
  rw [e1]
  refine ⟨a, xs, rfl, SqT.of ha, fun e => ?_, fun _ p hp => ?_⟩
  · rw [HT.sIx_nat] at e
    omega
  · have e : cutV xs (some ((i + 1 : Nat) : Int)) none = xs.drop (i + 1) := by
      unfold cutV
      rw [HT.sIx_none, HT.sIx_nat, Nat.min_eq_left (by omega)]
      exact List.take_of_length_le (by rw [List.length_drop]; omega)
    rw [e]
    exact h p _ (same_new hp) upd_same
/-- all programs' nodes, in a list -/
def EvAt (H : Hp) (b : Addr) (es : List (List Nd)) : Prop := ∃ qs : List (Addr × List Nd), H b = some (.lst (qs.map fun q => V.ref q.1)) ∧ qs.map Prod.snd = es ∧ ∀ q ∈ qs, NodesAt H q.1 q.2
theorem EvAt.same {H H' : Hp} {b : Addr} {es : List (List Nd)} (h : EvAt H b es) (s : Same H H') : EvAt H' b es := by
  obtain ⟨qs, h1, h2, h3⟩ := h
  exact ⟨qs, s _ _ h1, h2, fun q hq => (h3 q hq).same s⟩
/-- nodes drawn for lines -/
def GoodEs (es : List (List Nd)) (ls : List (List Str)) : Prop := ∀ ns ∈ es, Good ns ∧ ∀ n ∈ ns, n.cell ∈ ls.flatten
def StepT (H : Hp) (a : Addr) (s : Step) : Prop := ∃ b : Addr, H a = some (.tup [.int (s.1 : Int), plV s.2.1, .int (s.2.2.1 : Int), .ref b]) ∧ StT H b s.2.2.2.1 s.2.2.2.2
theorem StepT.tups {H H' : Hp} {a : Addr} {s : Step} (h : StepT H a s) (t : Tups H H') : StepT H' a s := by
  obtain ⟨b, h1, h2⟩ := h
  exact ⟨b, t _ _ h1, h2.tups t⟩
def StepsT (H : Hp) (l : Addr) (ss : List Step) : Prop := ∃ qs : List (Addr × Step), H l = some (.lst (qs.map fun q => V.ref q.1)) ∧ qs.map Prod.snd = ss ∧ ∀ q ∈ qs, StepT H q.1 q.2
theorem set_self {α : Type} {xs : List α} {j : Nat} {x : α} (h : xs[j]? = some x) : xs.set j x = xs := by
  obtain ⟨hi, rfl⟩ := List.getElem?_eq_some_iff.mp h
  exact List.set_getElem_self hi
theorem getD_of {held : List Ln} {j : Nat} {l : Ln} (h : held[j]? = some l) : held.getD j ([], false) = l := by
  rw [List.getD_eq_getElem?_getD, h]
  rfl
theorem read_in {held : List Ln} {th j : Nat} {ns : List Nat} {ow : Bool} (h : held[j]? = some (ns, ow)) (hm : th ∈ ns) : touch held th j false = (0, held.set j (ns, ow)) := by
  rw [touch_stay (getD_of h) ⟨hm, .inr rfl⟩, set_self h]
theorem read_out {held : List Ln} {th j : Nat} {ns : List Nat} {ow : Bool} (h : held[j]? = some (ns, ow)) (hm : th ∉ ns) : touch held th j false = (1, held.set j (srtN (ns ++ [th]), false)) := touch_go (getD_of h) fun z => hm z.1
theorem write_in {held : List Ln} {th j : Nat} (h : held[j]? = some ([th], true)) : touch held th j true = (0, held.set j ([th], true)) := by
  rw [touch_stay (getD_of h) ⟨by simp, .inl rfl⟩, set_self h]
theorem write_out {held : List Ln} {th j : Nat} {ns : List Nat} {ow : Bool} (h : held[j]? = some (ns, ow)) (h1 : ow = true → ns.length = 1) (hm : ¬ (ns = [th] ∧ ow = true)) : touch held th j true = (1, held.set j ([th], true)) := by
  refine touch_go (getD_of h) fun z => ?_
  obtain ⟨z1, z2⟩ := z
  have z3 : ow = true := by
    rcases z2 with z | z
    · exact z
    · cases z
  have z4 := h1 z3
  match ns, z4, z1, hm with
  | [x], _, z1, hm => exact hm ⟨by rw [List.mem_singleton.mp z1], z3⟩
end Vf

set_option maxRecDepth 100000
set_option maxHeartbeats 8000000
namespace Vf
open PySem PySem.Spec PyProof.Rows L2
section
variable {P : Program} {w : World} {K : PySem.W.Frag} {mg : Str → Option Value} {base : Heap}
/-- lines in their order, in a list -/
def OrdAt (H : Hp) (t : Addr) (rs : List (Addr × List Str)) : Prop := H t = some (.lst (rs.map fun q => V.ref q.1)) ∧ ∀ q ∈ rs, H q.1 = some (.tup (q.2.map V.str))
theorem OrdAt.same {H H' : Hp} {t : Addr} {rs : List (Addr × List Str)} (h : OrdAt H t rs) (s : Same H H') : OrdAt H' t rs := ⟨s _ _ h.1, fun q hq => s _ _ (h.2 q hq)⟩
def sp_law_order : Sp := fun vs H Q _ => ∃ (l : Addr) (ps : List (Addr × List Str)), vs = [.ref l] ∧ H l = some (.lst (ps.map fun p => V.ref p.1)) ∧ (∀ p ∈ ps, H p.1 = some (.lst (p.2.map V.str)) ∧ p.2 ≠ [] ∧ p.2.length ≤ 6) ∧ ps.length ≤ 6 ∧
  ∀ t rs H', Same H H' → OrdAt H' t rs → rs.map Prod.snd = linesOf ps → Q (.ref t) H'
theorem ok_law_order {f : Addr} {fd : FuncData} (F : Fun K "_law_order" "_law_order" s_law_order f fd) (T : Txt0 K mg) : FnOk P w K mg base CX0 1 f fd p_law_order sp_law_order := by
  refine F.ok sc_law_order (fun vs H Q E h => ?_) (fun cdv A outer s H vs Q E hr h => ?_)
  · obtain ⟨l, ps, rfl, _⟩ := h
    rfl
  · obtain ⟨l, ps, rfl, hl, hps, few, k⟩ := h
    refine ⟨_, pss_one (ps_ret (pe_callB (cr_sortedD hr) (by rfl) T.sorted (by decide +kernel) (pa_cons
          (pe_lc (own := [("line", 1)]) (g := gName 1) (tt := tYes) rfl sc_law_order.nd (pi_list (pv 0)) (blkOk_by (N := n_law_order) (sc := defScope s_law_order) (by decide +kernel))
            (fun _ _ _ _ _ => pg_name (i := 1) sc_law_order.nd rfl (Or.inl rfl)) (fun _ _ _ _ _ => pts_nil)
            (fun _ _ _ _ _ => pe_callTy (cr_tup (K := K) rfl) (by rfl) T.tuple (by decide +kernel) (pa_cons (pe_callB (r := rSortedS K) cr_sortedS (by rfl) T.sorted (by decide +kernel) (pa_cons (pv 1) pa_nil)) pa_nil))) pa_nil))), ?_⟩
    have wl : ∀ {a : Addr}, Walk (Itl K a) ps.length (fun H => SqL K H a (ps.map fun p => V.ref p.1)) (YAt (ps.map fun p => V.ref p.1)) := fun {a} => (walk_list (K := K) (a := a) (xs := ps.map fun p => V.ref p.1) |> fun z => by rw [List.length_map] at z; exact z)
    refine ⟨_, rfl, l, rfl, ⟨_, SqL.of hl⟩, fun D hD => lc_ad ps wl hD (fun p v H => ∃ t, v = .ref t ∧ H t = some (.tup ((srt p.2).map V.str))) (by omega) (fun H6 s6 => SqL.of (s6 _ _ hl)) ?_ ?_⟩
    · rintro i a x H6 H7 ha s6 ⟨acc, hacc⟩ ⟨rfl, hx⟩ R hR
      rw [List.getElem?_map, ha] at hx
      obtain rfl : V.ref a.1 = x := Option.some.inj hx
      obtain ⟨h1, h2, h3⟩ := hps a (List.mem_of_getElem? ha)
      refine ⟨rfl, _, rfl, a.1, a.2, rfl, SqL.of (s6 _ _ h1), by omega, fun ys q hy1 hy2 hq => ⟨q, _, rfl, .inl ⟨SqL.of upd_same, fun t ht => ?_⟩⟩⟩
      obtain rfl : ys = srt a.2 := srt_of hy1 hy2
      have sq := same_new (o := .lst ((srt a.2).map V.str)) hq
      refine hR (.ref t) _ (sq.trans (same_new ht)) fun H8 b8 => ⟨t, rfl, b8 t _ (ne_of_none (sq _ _ hacc) ht).symm upd_same⟩
    · intro H6 xs s6 hL hlen hpr
      obtain ⟨qs, rfl, eqs, hqs⟩ := qs_of (H := H6) (ps.map fun p => srt p.2) xs (by rw [hlen, List.length_map]) fun i ws v h1 h2 => by
        rw [List.getElem?_map] at h1
        cases e : ps[i]? with
        | none => rw [e] at h1; cases h1
        | some a =>
          rw [e] at h1
          obtain rfl : srt a.2 = ws := Option.some.inj h1
          exact hpr i a v e h2
      have qne : ∀ q ∈ qs, q.2 ≠ [] := fun q hq z => by
        have hm : q.2 ∈ qs.map Prod.snd := List.mem_map_of_mem hq
        rw [eqs] at hm
        obtain ⟨a, ha, ea⟩ := List.mem_map.mp hm
        have := (srt_perm a.2).length_eq
        rw [show srt a.2 = [] from ea.trans z] at this
        exact (hps a ha).2.1 (List.length_eq_zero_iff.mp this.symm)
      rw [show ∀ σ H Q, tNil σ H Q = Q [] H from fun _ _ _ => rfl]
      refine lines_sorted (K := K) hL hqs (by rw [List.length_map] at hlen; omega) qne fun q2 rs hq2 hrs hin => k q2 rs _ (s6.trans (same_new hq2)) ⟨upd_same, fun q hq => same_new hq2 _ _ (hqs q (hin q hq))⟩ (by rw [hrs, eqs]; rfl)
end
end Vf

set_option maxRecDepth 100000
set_option maxHeartbeats 16000000
namespace Vf
open PySem PySem.Spec PyProof.Rows L2
section
variable {P : Program} {w : World} {K : PySem.W.Frag} {mg : Str → Option Value} {base : Heap}
def sp_law_steps : Sp := fun vs H Q _ => ∃ (a b c : Addr) (rs : List (Addr × List Str)) (es : List (List Nd)) (pl : List (Option Nat)) (held : List Ln), vs = [.ref a, .ref b, .ref c] ∧ OrdAt H a rs ∧ EvAt H b es ∧ StT H c pl held ∧ OkSt es (rs.map Prod.snd) pl held ∧
  es.length ≤ 50 ∧ rs.length ≤ 50 ∧ GoodEs es (rs.map Prod.snd) ∧ (rs.map Prod.snd).flatten.Nodup ∧ ∀ x H', H x = none → Same H H' → StepsT H' x (stepsM (rs.map Prod.snd) es pl held) → Q (.ref x) H'
theorem ok_law_steps {f : Addr} {fd : FuncData} (F : Fun K "_law_steps" "_law_steps" s_law_steps f fd) (T : Txt0 K mg) : FnOk P w K mg base CX0 1 f fd p_law_steps sp_law_steps := by
  refine F.ok sc_law_steps (fun vs H Q E h => ?_) (fun cdv A outer s H vs Q E hr h => ?_)
  · obtain ⟨a, b, c, rs, es, pl, held, rfl, _⟩ := h
    rfl
  · obtain ⟨a, b, c, rs, es, pl, held, rfl, hord, ⟨Qs, hQ1, hQ2, hQ3⟩, ⟨tp, tu, hc1, hc2, ⟨us, hu1, hu2, hu3⟩⟩, ok, few, fewl, good, nd, k⟩ := h
    refine ⟨_, pss_cons (ps_asg (pv 2) (pg_tup (by rfl) (pgs_cons (pg_name (i := 3) sc_law_steps.nd rfl (Or.inl rfl)) (pgs_cons (pg_name (i := 4) sc_law_steps.nd rfl (Or.inl rfl)) pgs_nil))))
      (pss_cons (ps_set (i := 5) sc_law_steps.nd rfl (Or.inl rfl) (pe_lst pa_nil))
      (pss_cons (ps_for PassesOwn.never rfl (pi_enum (by rfl) T.enumerate (pa_cons (pv 1) pa_nil)) (pg_tup (by rfl) (pgs_cons (pg_name (i := 6) sc_law_steps.nd rfl (Or.inl rfl)) (pgs_cons (pg_name (i := 7) sc_law_steps.nd rfl (Or.inl rfl)) pgs_nil)))
        (pss_one (ps_if (pt_cmpR op_notN (pe_ix ix_tup (pv 3) (pv 6) (fun _ _ => rfl)) pe_non (nomark _))
          (pss_cons (ps_asg (pe_ix ix_tup (pv 7) (pe_ix ix_tup (pv 3) (pv 6) (fun _ _ => rfl)) (fun _ _ => rfl)) (pg_tup (by rfl) (pgs_cons (pg_name (i := 8) sc_law_steps.nd rfl (Or.inl rfl)) (pgs_cons (pg_name (i := 9) sc_law_steps.nd rfl (Or.inr rfl)) (pgs_cons (pg_name (i := 10) sc_law_steps.nd rfl (Or.inl rfl)) pgs_nil)))))
          (pss_cons (ps_set (i := 11) sc_law_steps.nd rfl (Or.inl rfl) (pe_ix ix_list (pe_lc (own := [("number", 18), ("line", 19)]) (g := gTup K 2 (gCons (gName 18) (gCons (gName 19) gNil))) rfl sc_law_steps.nd (pi_enum (by rfl) T.enumerate (pa_cons (pv 0) pa_nil)) (blkOk_by (N := n_law_steps) (sc := defScope s_law_steps) (by decide +kernel)) (fun _ _ _ _ _ => (pg_tup (by rfl) (pgs_cons (pg_name (i := 18) sc_law_steps.nd rfl (Or.inl rfl)) (pgs_cons (pg_name (i := 19) sc_law_steps.nd rfl (Or.inl rfl)) pgs_nil)))) (fun _ _ _ _ _ => pts_one (pt_cmpR (op_inK (K := K) rfl) (pv 9) (pv 19) rfl)) (fun _ _ _ _ _ => pv 18)) pe_int (fun _ _ => rfl)))
          (pss_cons (ps_asg (pe_ix ix_tup (pv 4) (pv 11) (fun _ _ => rfl)) (pg_tup (by rfl) (pgs_cons (pg_name (i := 12) sc_law_steps.nd rfl (Or.inl rfl)) (pgs_cons (pg_name (i := 13) sc_law_steps.nd rfl (Or.inl rfl)) pgs_nil))))
          (C8.pss_cut (ps_if (pt_cmpR op_eq (pv 8) pe_str (nomark _)) (pss_cons (ps_set (i := 14) sc_law_steps.nd rfl (Or.inl rfl) (pe_callTy call_int1 (by rfl) T.int (by decide +kernel) (pa_cons (pe_cmpR op_notIn_seq (pv 6) (pv 12) (by rfl)) pa_nil))) (pss_one (ps_set (i := 15) sc_law_steps.nd rfl (Or.inl rfl) (pe_ifExp (pt_cmpR op_eq (pv 14) pe_int (nomark _)) (pe_ix ix_tup (pv 4) (pv 11) (fun _ _ => rfl)) (pe_tup (pa_cons (pe_callTy call_tuple_of (by rfl) T.tuple (by decide +kernel) (pa_cons (pe_callB cr_sortedI (by rfl) T.sorted (by decide +kernel) (pa_cons (pe_op op_cat (pe_callTy call_list_of (by rfl) T.list (by decide +kernel) (pa_cons (pv 12) pa_nil)) (pe_lst (pa_cons (pv 6) pa_nil))) pa_nil)) pa_nil)) (pa_cons pe_bl pa_nil))))))) (pss_cons (ps_set (i := 14) sc_law_steps.nd rfl (Or.inl rfl) (pe_callTy call_int1 (by rfl) T.int (by decide +kernel) (pa_cons (pe_or (pe_cmpR (op_neD hr.units) (pv 12) (pe_tup (pa_cons (pv 6) pa_nil)) (nomark _)) (pe_one (pe_not (pv 13)))) pa_nil))) (pss_one (ps_set (i := 15) sc_law_steps.nd rfl (Or.inl rfl) (pe_tup (pa_cons (pe_tup (pa_cons (pv 6) pa_nil)) (pa_cons pe_bl pa_nil)))))))
          (pss_cons (ps_set (i := 16) sc_law_steps.nd rfl (Or.inl rfl) (pe_op op_catA (pe_op op_catA (pe_slice sl_tupA (pv 4) po_none (po_some (pv 11))) (pe_tup (pa_cons (pv 15) pa_nil))) (pe_slice sl_tupA (pv 4) (po_some (pe_op op_add (pv 11) pe_int)) po_none)))
          (pss_one (ps_for PassesOwn.never rfl (pi_tup (pv 10)) (pg_name (i := 17) sc_law_steps.nd rfl (Or.inl rfl))
            (pss_one (ps_expr (pe_bm PySem.F.plainAttrs_list PySem.F.slot_list_append PySem.F.type_list_append mt_append (pv 5) (pa_cons (pe_tup (pa_cons (pv 6) (pa_cons (pv 17) (pa_cons (pv 14) (pa_cons (pe_tup (pa_cons (pe_op op_catA (pe_op op_catA (pe_slice sl_tupA (pv 3) po_none (po_some (pv 6))) (pe_tup (pa_cons (pv 17) pa_nil))) (pe_slice sl_tupA (pv 3) (po_some (pe_op op_add (pv 6) pe_int)) po_none)) (pa_cons (pv 16) pa_nil))) pa_nil))))) pa_nil)))))))))))
          pss_nil)))
      (pss_one (ps_ret (pv 5))))), ?_⟩
    refine ⟨_, rfl, c, _, rfl, SqT.of hc1, rfl, _, _, rfl, _, _, rfl, rfl, Nat.zero_le _, fun l5 hl5 => ?_⟩
    have e5 : (upd H l5 (.lst [])) l5 = some (.lst []) := upd_same
    have s5 := same_new (o := .lst []) hl5
    generalize upd H l5 (.lst []) = H1 at e5 s5 ⊢
    have el : pl.length = es.length := ok.pls
    have lQ : Qs.length = es.length := by rw [← hQ2, List.length_map]
    have ntg : ∀ ns ∈ es, ∀ n ∈ ns, n.tg.length ≤ 100 := fun ns h1 n h2 => by
      have a1 := ((good ns h1).1.all n h2).tg.len
      have a2 := (good ns h1).1.few
      omega
    refine ⟨_, rfl, b, _, rfl, SqL.of (s5 _ _ hQ1), for_it (walk_enum (K := K) (a := b) (xs := Qs.map fun q => V.ref q.1)) (fun i σ H' => ∃ (v6 v7 v8 v9 v10 v11 v12 v13 v14 v15 v16 v17 v18 v19 : Option V) (qs : List (Addr × Step)), σ = [some (.ref a), some (.ref b), some (.ref c), some (.ref tp), some (.ref tu), some (.ref l5), v6, v7, v8, v9, v10, v11, v12, v13, v14, v15, v16, v17, v18, v19] ∧
        But l5 H1 H' ∧ H' l5 = some (.lst (qs.map fun q => V.ref q.1)) ∧ qs.map Prod.snd = (List.range i).flatMap (stepsT (rs.map Prod.snd) es pl held) ∧ ∀ q ∈ qs, StepT H' q.1 q.2)
      ⟨_, _, _, _, _, _, _, _, _, _, _, _, _, _, [], rfl, But.refl _ _, e5, rfl, fun q hq => nomatch hq⟩ (fun i σ H' _ ⟨_, _, _, _, _, _, _, _, _, _, _, _, _, _, _, _, hb, _⟩ => SqL.of (hb.same s5 hl5 _ _ hQ1)) ?_ ?_⟩
    · rintro i x σ H3 H4 hi ⟨v6, v7, v8, v9, v10, v11, v12, v13, v14, v15, v16, v17, v18, v19, qs, rfl, hb, hla, hqs, hst⟩ ⟨T1, x1, x2, rfl, hT1, rfl, hx1, hx2⟩
      rw [List.length_map] at hi
      obtain rfl : V.int (i : Nat) = x1 := Option.some.inj hx1
      have hQ : Qs[i]? = some Qs[i] := List.getElem?_eq_getElem hi
      generalize Qs[i] = Qi at hQ
      replace hx2 : (Qs.map fun q => V.ref q.1)[i]? = some x2 := hx2
      rw [List.getElem?_map, hQ] at hx2
      obtain rfl : V.ref Qi.1 = x2 := Option.some.inj hx2
      have hip : i < pl.length := by omega
      have hpi : pl[i]? = some pl[i] := List.getElem?_eq_getElem hip
      generalize pl[i] = pi at hpi
      have egp : pl.getD i none = pi := by
        rw [List.getD_eq_getElem?_getD, hpi]
        rfl
      have s3 : Same H (upd H3 T1 (.tup [.int (i : Nat), .ref Qi.1])) := (hb.same s5 hl5).trans (same_new hT1)
      have hb3 : But l5 H1 (upd H3 T1 (.tup [.int (i : Nat), .ref Qi.1])) := hb.then (same_new hT1)
      have hla3 := same_new (o := .tup [.int (i : Nat), .ref Qi.1]) hT1 _ _ hla
      have hst3 : ∀ q ∈ qs, StepT (upd H3 T1 (.tup [.int (i : Nat), .ref Qi.1])) q.1 q.2 := fun q hq => (hst q hq).tups (Vf.Same.tups (same_new hT1))
      have atp : atI (pl.map plV) (i : Int) = some (plV pi) := atI_nat (j := i) (by rw [List.getElem?_map, hpi]; rfl)
      refine ⟨T1, _, rfl, SqT.of upd_same, rfl, _, _, rfl, _, _, rfl, rfl, ?_⟩
      generalize upd H3 T1 (.tup [.int (i : Nat), .ref Qi.1]) = H5 at s3 hb3 hla3 hst3 ⊢
      refine ⟨_, rfl, _, rfl, tp, _, _, _, rfl, rfl, SqT.of (s3 _ _ hc2), atp, rfl, _, rfl, ?_⟩
      cases pi with
      | none =>
        refine iteF ?_
        refine ⟨_, _, _, _, _, _, _, _, _, _, _, _, _, _, qs, rfl, hb3, hla3, ?_, hst3⟩
        rw [List.range_succ, List.flatMap_append, hqs, List.flatMap_cons, List.flatMap_nil]
        unfold stepsT
        rw [egp]
        simp
      | some m =>
        refine iteT ?_
        obtain ⟨as, ht, hin1, hin2⟩ := hQ3 Qi (List.mem_of_getElem? hQ)
        have hes : es[i]? = some Qi.2 := by
          rw [← hQ2, List.getElem?_map, hQ]
          rfl
        have ege : es.getD i [] = Qi.2 := by
          rw [List.getD_eq_getElem?_getD, hes]
          rfl
        have hm : m < Qi.2.length := by
          have := ok.pin i m hpi
          rwa [ege] at this
        have hnm : Qi.2[m]? = some Qi.2[m] := List.getElem?_eq_getElem hm
        generalize Qi.2[m] = n at hnm
        have hma : m < as.length := by omega
        have ham : as[m]? = some as[m] := List.getElem?_eq_getElem hma
        generalize as[m] = am at ham
        obtain ⟨tg, g1, g2⟩ := hin2 m am n ham hnm
        obtain ⟨gg, gc⟩ := good Qi.2 (List.mem_of_getElem? hes)
        have gn := gg.all n (List.mem_of_getElem? hnm)
        have hcell := gc n (List.mem_of_getElem? hnm)
        obtain ⟨j, ws, hj, hz⟩ := line_has hcell
        have eln := lineNo_at nd hj hz
        have hjl : j < rs.length := by
          have := (List.getElem?_eq_some_iff.mp hj).1
          rwa [List.length_map] at this
        refine ⟨_, rfl, _, rfl, _, rfl, tp, _, _, _, rfl, rfl, SqT.of (s3 _ _ hc2), atp, Qi.1, _, _, _, rfl, rfl, SqT.of (s3 _ _ ht), atI_nat (j := m) (by rw [List.getElem?_map, ham]; rfl), am, _, rfl, SqT.of (s3 _ _ g1), rfl, _, _, rfl, _, _, rfl, _, _, rfl, rfl, ?_⟩
        refine ⟨_, rfl, a, _, rfl, SqL.of (s3 _ _ hord.1), fun D hD => lc_it (walk_enum (K := K) (a := a) (xs := rs.map fun q => V.ref q.1)) (fun y H' => Same H5 H' ∧ H' D = some (.lst (if j < y then [.int (j : Int)] else []))) ⟨same_new hD, upd_same⟩ (fun y H' _ h => SqL.of (h.1 _ _ (s3 _ _ hord.1))) ?_ ?_⟩
        · rintro y x H6 H7 hy ⟨s6, hD6⟩ ⟨T2, x1, x2, rfl, hT2, rfl, hx1, hx2⟩
          rw [List.length_map] at hy
          obtain rfl : V.int (y : Nat) = x1 := Option.some.inj hx1
          have hr : rs[y]? = some rs[y] := List.getElem?_eq_getElem hy
          generalize rs[y] = ry at hr
          replace hx2 : (rs.map fun q => V.ref q.1)[y]? = some x2 := hx2
          rw [List.getElem?_map, hr] at hx2
          obtain rfl : V.ref ry.1 = x2 := Option.some.inj hx2
          have hry : (rs.map Prod.snd)[y]? = some ry.2 := by rw [List.getElem?_map, hr]; rfl
          have sT := s6.trans (same_new (o := .tup [.int (y : Nat), .ref ry.1]) hT2)
          have hD7 := same_new (o := .tup [.int (y : Nat), .ref ry.1]) hT2 _ _ hD6
          refine ⟨T2, _, rfl, SqT.of upd_same, rfl, _, _, rfl, _, _, rfl, rfl, rfl, _, rfl, _, rfl, ry.1, _, rfl, .inr (SqT.of (sT _ _ (s3 _ _ (hord.2 ry (List.mem_of_getElem? hr))))), rfl, flat_strs2 _, _, rfl, ?_⟩
          show if (if false = true then !inV (.str n.cell) (ry.2.map V.str) else inV (.str n.cell) (ry.2.map V.str)) = true then _ else _
          rw [if_neg Bool.false_ne_true, inV_str]
          by_cases hc : n.cell ∈ ry.2
          · obtain rfl : y = j := line_one nd hry hc hj hz
            rw [decide_eq_true hc]
            rw [if_neg (Nat.lt_irrefl _)] at hD7
            refine iteT ⟨_, rfl, [], hD7, (by show 0 < sizeLine; decide), same_upd sT hD, ?_⟩
            rw [upd_same, if_pos (Nat.lt_succ_self _)]
            rfl
          · rw [decide_eq_false hc]
            have yj : y ≠ j := fun z => by
              subst z
              rw [hj] at hry
              obtain rfl := Option.some.inj hry
              exact hc hz
            refine iteF ⟨sT, ?_⟩
            rw [hD7]
            congr 2
            by_cases q : j < y
            · rw [if_pos q, if_pos (by omega)]
            · rw [if_neg q, if_neg (by omega)]
        rintro H6 ⟨s6, hD6⟩
        rw [List.length_map, if_pos hjl] at hD6
        have s06 := s3.trans s6
        have hb6 := hb3.then s6
        have hla6 := s6 _ _ hla3
        have hst6 : ∀ q ∈ qs, StepT H6 q.1 q.2 := fun q hq => (hst3 q hq).tups (Vf.Same.tups s6)
        have hju : j < us.length := by
          have := ok.hls
          rw [← hu3, List.length_map, List.length_map] at this
          omega
        have huj : us[j]? = some us[j] := List.getElem?_eq_getElem hju
        generalize us[j] = uj at huj
        obtain ⟨ua, ns, ow⟩ := uj
        obtain ⟨t, l1, l2⟩ := hu2 _ (List.mem_of_getElem? huj)
        have hheld : held[j]? = some (ns, ow) := by
          rw [← hu3, List.getElem?_map, huj]
          rfl
        obtain ⟨o1, o2, o3⟩ := ok.own (ns, ow) (List.mem_of_getElem? hheld)
        have o4 : ns.length ≤ 50 := Nat.le_trans (rises_max o2 o1) few
        have atu : atI (us.map fun q => V.ref q.1) (j : Int) = some (V.ref ua) := atI_nat (j := j) (by rw [List.getElem?_map, huj]; rfl)
        refine ⟨D, _, _, _, rfl, rfl, SqL.of hD6, rfl, ?_⟩
        refine ⟨_, rfl, _, rfl, tu, _, _, _, rfl, rfl, SqT.of (s06 _ _ hu1), atu, ua, _, rfl, SqT.of (s06 _ _ l1), rfl, _, _, rfl, _, _, rfl, rfl, ?_⟩
        have hwr : wrN n = decide (V.str n.word = V.str sWrite) := rfl
        refine ⟨fun σ H' => ∃ (mv : Nat) (mo : Addr) (l' : Ln) (w16 w17 w18 w19 : Option V), σ = [some (.ref a), some (.ref b), some (.ref c), some (.ref tp), some (.ref tu), some (.ref l5), some (.int (i : Int)), some (.ref Qi.1), some (.str n.word), some (.str n.cell), some (.ref tg), some (.int (j : Int)), some (.ref t), some (.bl ow), some (.int (mv : Int)), some (.ref mo), w16, w17, w18, w19] ∧
          Same H6 H' ∧ LnT H' mo l' ∧ touch held i j (wrN n) = (mv, held.set j l'), ?_, ?_⟩
        · refine ⟨_, rfl, rfl, _, rfl, ?_⟩
          rcases gn.word with e | e
          · have ew : wrN n = false := by
              rw [hwr, e]
              decide +kernel
            rw [ew, e]
            rw [decide_eq_true (p := V.str sRead = V.str (Str.ofString "read")) rfl]
            refine iteT ⟨_, rfl, _, rfl, t, _, rfl, .inr (SqT.of (s06 _ _ l2)), rfl, flat_nat _, .inr ⟨_, rfl, ?_⟩⟩
            rw [if_pos rfl, inV_nat]
            by_cases hm : i ∈ ns
            · rw [decide_eq_true hm]
              refine ⟨_, rfl, rfl, _, rfl, iteT ⟨_, rfl, _, rfl, tu, _, _, _, rfl, rfl, SqT.of (s06 _ _ hu1), atu, ?_⟩⟩
              exact ⟨0, ua, (ns, ow), _, _, _, _, rfl, Same.refl _, ⟨t, s06 _ _ l1, s06 _ _ l2⟩, read_in hheld hm⟩
            · rw [decide_eq_false hm]
              refine ⟨_, rfl, rfl, _, rfl, iteF ⟨_, rfl, t, natV ns, rfl, .inr (SqT.of (s06 _ _ l2)), fun k1 hk1 => ⟨_, rfl, (by show 1 ≤ sizeLine; decide), fun k2 hk2 => ?_⟩⟩⟩
              have f1 := same_new (o := .lst [.int (i : Int)]) hk2 k1 (.lst (natV ns)) upd_same
              refine ⟨k1, k2, _, _, rfl, rfl, f1, upd_same, (by rw [List.length_map, sizeLine_eq]; show ns.length + 1 ≤ _; omega), fun k3 hk3 => ⟨k3, (ns.map fun n : Nat => (n : Int)) ++ [(i : Int)], rfl, SqL.of (by rw [upd_same, List.map_append, List.map_map]; rfl), fun ms k4 pm od hk4 => ⟨k4, ms.map V.int, rfl, .inl ⟨SqL.of upd_same, fun t1 ht1 => ⟨(by show 2 ≤ sizeLine; decide), fun q hq => ?_⟩⟩⟩⟩⟩
              have em := srtN_of (ns := ns ++ [i]) (by simpa using pm) od
              subst em
              rw [List.map_map] at *
              have sN := ((((same_new (o := .lst (natV ns)) hk1).trans (same_new (o := .lst [.int (i : Int)]) hk2)).trans (same_new hk3)).trans (same_new hk4)).trans ((same_new ht1).trans (same_new (o := .tup [.ref t1, .bl false]) hq))
              exact ⟨1, q, (srtN (ns ++ [i]), false), _, _, _, _, rfl, sN, ⟨t1, upd_same, same_new hq _ _ upd_same⟩, read_out hheld hm⟩
          · have ew : wrN n = true := by
              rw [hwr, e]
              exact decide_eq_true rfl
            rw [ew, e]
            rw [show decide (V.str sWrite = V.str (Str.ofString "read")) = false from by decide +kernel]
            have fin : ∀ (mv : Nat) (H7 : Hp), Same H6 H7 → touch held i j true = (mv, held.set j ([i], true)) → ∀ t1, H7 t1 = none → ∀ q, (upd H7 t1 (.tup [.int (i : Int)])) q = none → ∃ (mv' : Nat) (mo : Addr) (l' : Ln) (w16 w17 w18 w19 : Option V), [some (.ref a), some (.ref b), some (.ref c), some (.ref tp), some (.ref tu), some (.ref l5), some (.int (i : Int)), some (.ref Qi.1), some (.str sWrite), some (.str n.cell), some (.ref tg), some (.int (j : Int)), some (.ref t), some (.bl ow), some (.int (mv : Int)), some (.ref q), v16, v17, v18, v19] = [some (.ref a), some (.ref b), some (.ref c), some (.ref tp), some (.ref tu), some (.ref l5), some (.int (i : Int)), some (.ref Qi.1), some (.str sWrite), some (.str n.cell), some (.ref tg), some (.int (j : Int)), some (.ref t), some (.bl ow), some (.int (mv' : Int)), some (.ref mo), w16, w17, w18, w19] ∧
                Same H6 (upd (upd H7 t1 (.tup [.int (i : Int)])) q (.tup [.ref t1, .bl true])) ∧ LnT (upd (upd H7 t1 (.tup [.int (i : Int)])) q (.tup [.ref t1, .bl true])) mo l' ∧ touch held i j true = (mv', held.set j l') := fun mv H7 s7 htch t1 ht1 q hq =>
              ⟨mv, q, ([i], true), _, _, _, _, rfl, s7.trans ((same_new ht1).trans (same_new hq)), ⟨t1, upd_same, same_new hq _ _ upd_same⟩, htch⟩
            refine iteF ⟨_, rfl, _, rfl, (by show 1 ≤ sizeLine; decide), fun q hq => ⟨.tuple ((ns.map some).map tgD), .tuple ([some i].map tgD), .tup (SqT.of (by rw [← natV_tg]; exact same_new hq _ _ (s06 _ _ l2))) (dp_tg _), .tup (SqT.of upd_same) (dp_tg [some i]), shaped_tg _, shaped_tg _, ?_⟩⟩
            rw [eqv_tg]
            have enS : (ns.map some = [some i]) ↔ ns = [i] := ⟨fun h => by
              match ns, h with
              | [x], h => rw [Option.some.inj (List.cons.inj h).1], fun h => by rw [h]; rfl⟩
            have sq := same_new (o := .tup [.int (i : Int)]) hq
            by_cases hn : ns = [i]
            · rw [decide_eq_true (enS.mpr hn)]
              refine ⟨_, rfl, iteF ⟨_, rfl, ow, rfl, .inr ⟨_, rfl, _, rfl, (by show 1 ≤ sizeLine; decide), fun t1 ht1 => ⟨(by show 2 ≤ sizeLine; decide), fun q1 hq1 => ?_⟩⟩⟩⟩
              cases ow with
              | true => exact fin 0 _ sq (write_in (by rw [hheld, hn])) t1 ht1 q1 hq1
              | false => exact fin 1 _ sq (write_out hheld o3 fun z => Bool.noConfusion z.2) t1 ht1 q1 hq1
            · rw [decide_eq_false (fun z => hn (enS.mp z))]
              refine ⟨_, rfl, iteT (.inr ⟨_, rfl, _, rfl, (by show 1 ≤ sizeLine; decide), fun t1 ht1 => ⟨(by show 2 ≤ sizeLine; decide), fun q1 hq1 => ?_⟩⟩)⟩
              exact fin 1 _ sq (write_out hheld o3 fun z => hn z.1) t1 ht1 q1 hq1
        · rintro σ H7 ⟨mv, mo, l', w16, w17, w18, w19, rfl, s7, hmo, htch⟩
          have s07 := s06.trans s7
          have hb7 := hb6.then s7
          have hla7 := s7 _ _ hla6
          have hst7 : ∀ q ∈ qs, StepT H7 q.1 q.2 := fun q hq => (hst6 q hq).tups (Vf.Same.tups s7)
          have lus : us.length ≤ 50 := by
            have := ok.hls
            rw [← hu3, List.length_map, List.length_map] at this
            omega
          have hjm : j < (us.map fun q => V.ref q.1).length := by rw [List.length_map]; exact hju
          refine ⟨_, rfl, _, rfl, _, rfl, slP_left (s07 _ _ hu1) hjm fun p3 H8 s8 h8 => ⟨_, rfl, (by show 1 ≤ sizeLine; decide), fun n2 hn2 => catP (same_new hn2 _ _ h8) upd_same (by rw [List.length_take, List.length_map]; show min j us.length + 1 ≤ 1000; omega) fun p4 H9 s9 h9 => ?_⟩⟩
          have s79 := s8.trans ((same_new (o := .tup [.ref mo]) hn2).trans s9)
          refine ⟨_, rfl, _, rfl, _, _, rfl, rfl, _, rfl, ?_⟩
          dsimp only [tNoPart]
          refine slP_right ((s07.trans s79) _ _ hu1) hjm fun p5 H10 s10 h10 => catP (s10 _ _ h9) h10 (by simp only [List.length_append, List.length_take, List.length_drop, List.length_singleton, List.length_map]; omega) fun p6 H11 s11 h11 => ?_
          rw [set_cut hjm] at h11
          have s7b := s79.trans (s10.trans s11)
          have s0b := s07.trans s7b
          have hbeh : HeldT H11 p6 (held.set j l') := by
            refine ⟨us.set j (mo, l'), by rw [List.map_set]; exact h11, fun q hm => ?_, by rw [← hu3, List.map_set]⟩
            rcases List.mem_or_eq_of_mem_set hm with h | h
            · exact (hu2 q h).tups (Vf.Same.tups s0b)
            · subst h
              exact hmo.tups (Vf.Same.tups s7b)
          have hbb := hb7.then s7b
          have hlab := s7b _ _ hla7
          have hstb : ∀ q ∈ qs, StepT H11 q.1 q.2 := fun q hq => (hst7 q hq).tups (Vf.Same.tups s7b)
          refine ⟨_, rfl, tg, rfl, ⟨_, SqT.of (s0b _ _ g2)⟩, for_it (walk_tup (K := K) (a := tg) (xs := n.tg.map tgV)) (fun y σ H' => ∃ (u17 : Option V) (qs2 : List (Addr × Step)), σ = [some (.ref a), some (.ref b), some (.ref c), some (.ref tp), some (.ref tu), some (.ref l5), some (.int (i : Int)), some (.ref Qi.1), some (.str n.word), some (.str n.cell), some (.ref tg), some (.int (j : Int)), some (.ref t), some (.bl ow), some (.int (mv : Int)), some (.ref mo), some (.ref p6), u17, w18, w19] ∧
              But l5 H11 H' ∧ H' l5 = some (.lst (qs2.map fun q => V.ref q.1)) ∧ qs2.map Prod.snd = qs.map Prod.snd ++ ((n.tg.take y).map fun g => (i, g, mv, pl.set i g, held.set j l')) ∧ ∀ q ∈ qs2, StepT H' q.1 q.2)
            ⟨_, qs, rfl, But.refl _ _, hlab, by simp, hstb⟩ (fun y σ H' _ ⟨_, _, _, hb2, _⟩ => SqT.of ((hbb.trans hb2).same s5 hl5 _ _ g2)) ?_ ?_⟩
          · rintro y x σ H12 H13 hy ⟨u17, qs2, rfl, hb12, hla12, hqs12, hst12⟩ ⟨rfl, hx⟩
            rw [List.length_map] at hy
            have hg : n.tg[y]? = some n.tg[y] := List.getElem?_eq_getElem hy
            generalize n.tg[y] = g at hg
            rw [List.getElem?_map, hg] at hx
            obtain rfl : tgV g = x := Option.some.inj hx
            have s12 := (hbb.trans hb12).same s5 hl5
            have him : i < (pl.map plV).length := by rw [List.length_map]; exact hip
            refine ⟨_, rfl, .inl ⟨rfl, _, SqL.of hla12⟩, _, rfl, _, rfl, _, rfl, _, rfl, _, rfl, _, rfl, slP_left (s12 _ _ hc2) him fun p7 H14 s14 h14 => ⟨_, rfl, (by show 1 ≤ sizeLine; decide), fun n3 hn3 => catP (same_new hn3 _ _ h14) upd_same (by rw [List.length_take, List.length_map]; show min i pl.length + 1 ≤ 1000; omega) fun p8 H15 s15 h15 => ?_⟩⟩
            have s1215 := s14.trans ((same_new (o := .tup [tgV g]) hn3).trans s15)
            refine ⟨_, rfl, _, rfl, _, _, rfl, rfl, _, rfl, ?_⟩
            dsimp only [tNoPart]
            refine slP_right ((s12.trans s1215) _ _ hc2) him fun p9 H16 s16 h16 => catP (s16 _ _ h15) h16 (by simp only [List.length_append, List.length_take, List.length_drop, List.length_singleton, List.length_map]; omega) fun pa H17 s17 h17 => ?_
            rw [set_cut him] at h17
            have sB := s1215.trans (s16.trans s17)
            refine ⟨_, rfl, (by show 2 ≤ sizeLine; decide), fun pb hpb => ⟨(by show 4 ≤ sizeLine; decide), fun pc hpc => ?_⟩⟩
            have sC := sB.trans ((same_new (o := .tup [.ref pa, .ref p6]) hpb).trans (same_new (o := .tup [.int (i : Int), tgV g, .int (mv : Int), .ref pb]) hpc))
            have hlaC := sC _ _ hla12
            have atC : StepT (upd (upd H17 pb (.tup [.ref pa, .ref p6])) pc (.tup [.int (i : Int), tgV g, .int (mv : Int), .ref pb])) pc (i, g, mv, pl.set i g, held.set j l') := by
              refine ⟨pb, by rw [plV_tgV]; exact upd_same, pa, p6, same_new hpc _ _ upd_same, ?_, ?_⟩
              · rw [List.map_set, plV_tgV]
                exact same_new hpc _ _ (same_new hpb _ _ h17)
              · exact (hbeh.tups (Vf.But.tups hb12 hlab)).tups (Vf.Same.tups sC)
            have hstC : ∀ q ∈ qs2, StepT (upd (upd H17 pb (.tup [.ref pa, .ref p6])) pc (.tup [.int (i : Int), tgV g, .int (mv : Int), .ref pb])) q.1 q.2 := fun q hq => (hst12 q hq).tups (Vf.Same.tups sC)
            have hbC := hb12.then sC
            generalize upd (upd H17 pb (.tup [.ref pa, .ref p6])) pc (.tup [.int (i : Int), tgV g, .int (mv : Int), .ref pb]) = H18 at hlaC atC hstC hbC ⊢
            have lq2 : qs2.length < sizeLine := by
              have h1 := congrArg List.length hqs12
              rw [hqs] at h1
              rw [List.length_map, List.length_append, List.length_map, List.length_take] at h1
              have h2 := steps_len (ls := rs.map Prod.snd) (pl := pl) (held := held) ntg i
              have h3 := ntg Qi.2 (List.mem_of_getElem? hes) n (List.mem_of_getElem? hnm)
              rw [sizeLine_eq]
              omega
            refine ⟨l5, _, _, rfl, rfl, hlaC, by rw [List.length_map]; exact lq2, _, qs2 ++ [(pc, (i, g, mv, pl.set i g, held.set j l'))], rfl, hbC.put, by rw [upd_same, List.map_append]; rfl, ?_, fun q hq => ?_⟩
            · rw [List.map_append, hqs12, List.take_add_one, hg]
              simp
            · have hbut : But l5 H18 (upd H18 l5 (.lst (qs2.map (fun q => V.ref q.1) ++ [.ref pc]))) := (But.refl l5 H18).put
              rcases List.mem_append.mp hq with hq | hq
              · exact (hstC q hq).tups (Vf.But.tups hbut hlaC)
              · rw [List.mem_singleton.mp hq]
                exact atC.tups (Vf.But.tups hbut hlaC)
          · rintro σ H12 ⟨u17, qs2, rfl, hb12, hla12, hqs12, hst12⟩
            refine ⟨_, _, _, _, _, _, _, _, _, _, _, _, _, _, qs2, rfl, hbb.trans hb12, hla12, ?_, hst12⟩
            rw [hqs12, hqs, List.range_succ, List.flatMap_append, List.flatMap_cons, List.flatMap_nil, List.append_nil, List.length_map, List.take_length]
            congr 1
            unfold stepsT
            rw [egp, ege]
            dsimp only
            rw [hnm]
            dsimp only
            rw [eln, htch]
    · rintro σ H3 ⟨v6, v7, v8, v9, v10, v11, v12, v13, v14, v15, v16, v17, v18, v19, qs, rfl, hb, hla, hqs, hst⟩
      rw [List.length_map] at hqs
      refine ⟨_, rfl, k l5 H3 hl5 (hb.same s5 hl5) ⟨qs, hla, ?_, hst⟩⟩
      rw [hqs]
      unfold stepsM
      rw [el, lQ]
end
end Vf

set_option maxRecDepth 100000
set_option maxHeartbeats 8000000
namespace Vf
open PySem PySem.Spec PyProof.Rows L2
mutual
theorem canLay_sh : ∀ d : PyData, shD d = true → d.canLay0 = true
  | .none, _ => by simp [PyData.canLay0]
  | .bool _, _ => by simp [PyData.canLay0]
  | .int _, _ => by simp [PyData.canLay0]
  | .str x, h => by simpa [PyData.canLay0, shD] using h
  | .list xs, h => by
    simp only [PyData.canLay0]
    exact canLayAll_sh xs (by simpa [shD] using h)
  | .tuple xs, h => by
    simp only [PyData.canLay0]
    exact canLayAll_sh xs (by simpa [shD] using h)
  | .dict _, h => by simp [shD] at h
theorem canLayAll_sh : ∀ xs : List PyData, shAll xs = true → PyData.canLayAll0 xs = true
  | [], _ => by simp [PyData.canLayAll0]
  | x :: xs, h => by
    simp only [shAll, Bool.and_eq_true] at h
    simp only [PyData.canLayAll0, Bool.and_eq_true]
    exact ⟨canLay_sh x h.1, canLayAll_sh xs h.2⟩
end
theorem shaped_sh {d : PyData} (h : shD d = true) (hd : d.depth ≤ 64) : SeqAt.shaped d = true := by
  unfold SeqAt.shaped
  rw [canLay_sh d h, decide_eq_true hd]
  rfl
mutual
theorem eqv_sh : ∀ d : PyData, shD d = true → PyData.eqv d d = true
  | .none, _ => by simp [PyData.eqv]
  | .bool _, _ => by simp [PyData.eqv]
  | .int _, _ => by simp [PyData.eqv]
  | .str x, _ => by simp [PyData.eqv]
  | .list xs, h => by
    simp only [PyData.eqv]
    exact eqvAll_sh xs (by simpa [shD] using h)
  | .tuple xs, h => by
    simp only [PyData.eqv]
    exact eqvAll_sh xs (by simpa [shD] using h)
  | .dict _, h => by simp [shD] at h
theorem eqvAll_sh : ∀ xs : List PyData, shAll xs = true → PyData.eqvAll xs xs = true
  | [], _ => by simp [PyData.eqvAll]
  | x :: xs, h => by
    simp only [shAll, Bool.and_eq_true] at h
    simp only [PyData.eqvAll, Bool.and_eq_true]
    exact ⟨eqv_sh x h.1, eqvAll_sh xs h.2⟩
end
theorem depthAll_map {α : Type} {f : α → PyData} {n : Nat} : ∀ {l : List α}, (∀ x ∈ l, (f x).depth ≤ n) → PyData.depthAll (l.map f) ≤ n
  | [], _ => by simp [PyData.depthAll]
  | x :: l, h => by
    simp only [List.map_cons, PyData.depthAll]
    exact Nat.max_le.mpr ⟨h x List.mem_cons_self, depthAll_map fun y hy => h y (List.mem_cons_of_mem _ hy)⟩
theorem shAll_map {α : Type} {f : α → PyData} : ∀ {l : List α}, (∀ x ∈ l, shD (f x) = true) → shAll (l.map f) = true
  | [], _ => by simp [shAll]
  | x :: l, h => by
    simp only [List.map_cons, shAll, Bool.and_eq_true]
    exact ⟨h x List.mem_cons_self, shAll_map fun y hy => h y (List.mem_cons_of_mem _ hy)⟩
theorem weightAll_map {α : Type} {f : α → PyData} {b : Nat} : ∀ {l : List α}, (∀ x ∈ l, (f x).weight ≤ b) → PyData.weightAll (l.map f) ≤ (b + 1) * l.length
  | [], _ => by simp [PyData.weightAll]
  | x :: l, h => by
    have h1 := h x List.mem_cons_self
    have h2 := weightAll_map (f := f) (b := b) (l := l) fun y hy => h y (List.mem_cons_of_mem _ hy)
    simp only [List.map_cons, PyData.weightAll, List.length_cons]
    rw [Nat.mul_add, Nat.mul_one]
    omega
theorem dp_map {α : Type} {K : PySem.W.Frag} {H : Hp} {f : α → V} {g : α → PyData} : ∀ {l : List α}, (∀ x ∈ l, Dp K H (f x) (g x)) → DpAll K H (l.map f) (l.map g)
  | [], _ => .nil
  | x :: l, h => .cons (h x List.mem_cons_self) (dp_map fun y hy => h y (List.mem_cons_of_mem _ hy))
def lnDt (l : Ln) : PyData := .tuple [.tuple (l.1.map fun n : Nat => .int (n : Int)), .bool l.2]
def stD (pl : List (Option Nat)) (held : List Ln) : PyData := .tuple [.tuple (pl.map tgD), .tuple (held.map lnDt)]
def stepD (s : Step) : PyData := .tuple [.int (s.1 : Int), tgD s.2.1, .int (s.2.2.1 : Int), stD s.2.2.2.1 s.2.2.2.2]
theorem dp_pl {K : PySem.W.Frag} {H : Hp} (o : Option Nat) : Dp K H (plV o) (tgD o) := by
  cases o with
  | none => exact .non
  | some i => exact .int _
theorem LnAt.dp {K : PySem.W.Frag} {H : Hp} {q : Addr} {l : Ln} (h : LnAt K H q l) : Dp K H (.ref q) (lnDt l) := by
  obtain ⟨t, h1, h2⟩ := h
  exact .tup h1 (.cons (.tup h2 (dp_map fun n _ => .int _)) (.cons (.bl _) .nil))
theorem StAt.dp {K : PySem.W.Frag} {H : Hp} {a : Addr} {pl : List (Option Nat)} {held : List Ln} (h : StAt K H a pl held) : Dp K H (.ref a) (stD pl held) := by
  obtain ⟨t, u, h1, h2, ⟨qs, h3, h4, h5⟩⟩ := h
  refine .tup h1 (.cons (.tup h2 (dp_map fun o _ => dp_pl o)) (.cons (.tup h3 ?_) .nil))
  rw [← h5, List.map_map]
  exact dp_map fun q hq => (h4 q hq).dp
theorem StepAt.dp {K : PySem.W.Frag} {H : Hp} {a : Addr} {s : Step} (h : StepAt K H a s) : Dp K H (.ref a) (stepD s) := by
  obtain ⟨b, h1, h2⟩ := h
  exact .tup h1 (.cons (.int _) (.cons (dp_pl _) (.cons (.int _) (.cons (Vf.StAt.dp h2) .nil))))
theorem StepT.at_ {K : PySem.W.Frag} {H : Hp} {a : Addr} {s : Step} (h : StepT H a s) : StepAt K H a s := by
  obtain ⟨b, h1, h2⟩ := h
  exact ⟨b, SqT.of h1, h2.at_⟩
theorem StepsT.at_ {K : PySem.W.Frag} {H : Hp} {l : Addr} {ss : List Step} (h : StepsT H l ss) : StepsAt K H l ss := by
  obtain ⟨qs, h1, h2, h3⟩ := h
  exact ⟨qs, h1, h2, fun q hq => (h3 q hq).at_⟩
theorem StepsAt.dp {K : PySem.W.Frag} {H : Hp} {l : Addr} {ss : List Step} (h : StepsAt K H l ss) : Dp K H (.ref l) (.list (ss.map stepD)) := by
  obtain ⟨qs, h1, h2, h3⟩ := h
  rw [← h2, List.map_map]
  exact .lst (SqL.of h1) (dp_map fun q hq => (h3 q hq).dp)
/-- small ones -/
structure SmSt (pl : List (Option Nat)) (held : List Ln) : Prop where
  pls : pl.length ≤ 3
  pin : ∀ i, some i ∈ pl → i < 1000
  hls : held.length ≤ 6
  own : ∀ l ∈ held, l.1.length ≤ 3 ∧ ∀ t ∈ l.1, t < 1000
structure SmStep (s : Step) : Prop where
  th : s.1 < 1000
  tg : ∀ i, s.2.1 = some i → i < 1000
  mv : s.2.2.1 ≤ 1
  st : SmSt s.2.2.2.1 s.2.2.2.2
theorem sh_nat {n : Nat} (h : n < 1000) : shD (.int (n : Int)) = true ∧ (PyData.int (n : Int)).weight ≤ 11 ∧ (PyData.int (n : Int)).depth = 0 := by
  refine ⟨?_, ?_, by simp [PyData.depth]⟩
  · simp only [shD, Bool.and_eq_true, decide_eq_true_eq]
    omega
  · simp only [PyData.weight]
    split
    · omega
    · rename_i h0
      have h1 : n ≠ 0 := fun z => h0 (by subst z; rfl)
      have h2 : n.log2 < 10 := (Nat.log2_lt h1).mpr (by omega)
      show n.log2 + 1 ≤ 11
      omega
theorem sh_tg {o : Option Nat} (h : ∀ i, o = some i → i < 1000) : shD (tgD o) = true ∧ (tgD o).weight ≤ 11 ∧ (tgD o).depth = 0 := by
  cases o with
  | none => exact ⟨rfl, by simp [tgD, PyData.weight], by simp [tgD, PyData.depth]⟩
  | some i => exact sh_nat (h i rfl)
theorem sh_ln {l : Ln} (h1 : l.1.length ≤ 3) (h2 : ∀ t ∈ l.1, t < 1000) : shD (lnDt l) = true ∧ (lnDt l).weight ≤ 40 ∧ (lnDt l).depth ≤ 2 := by
  have a := shAll_map (f := fun n : Nat => PyData.int (n : Int)) (l := l.1) fun x hx => (sh_nat (h2 x hx)).1
  have b := weightAll_map (f := fun n : Nat => PyData.int (n : Int)) (b := 11) (l := l.1) fun x hx => (sh_nat (h2 x hx)).2.1
  have c := depthAll_map (f := fun n : Nat => PyData.int (n : Int)) (n := 0) (l := l.1) fun x hx => by rw [(sh_nat (h2 x hx)).2.2]; exact Nat.le_refl _
  unfold lnDt
  simp only [shD, shAll, a, PyData.weight, PyData.weightAll, PyData.depth, PyData.depthAll]
  refine ⟨rfl, by omega, by omega⟩
theorem sh_st {pl : List (Option Nat)} {held : List Ln} (g : SmSt pl held) : shD (stD pl held) = true ∧ (stD pl held).weight ≤ 400 ∧ (stD pl held).depth ≤ 4 := by
  have g1 : ∀ o ∈ pl, ∀ i, o = some i → i < 1000 := fun o ho i e => g.pin i (e ▸ ho)
  have a := shAll_map (f := tgD) (l := pl) fun x hx => (sh_tg (g1 x hx)).1
  have b := weightAll_map (f := tgD) (b := 11) (l := pl) fun x hx => (sh_tg (g1 x hx)).2.1
  have c := depthAll_map (f := tgD) (n := 0) (l := pl) fun x hx => by rw [(sh_tg (g1 x hx)).2.2]; exact Nat.le_refl _
  have a2 := shAll_map (f := lnDt) (l := held) fun x hx => (sh_ln (g.own x hx).1 (g.own x hx).2).1
  have b2 := weightAll_map (f := lnDt) (b := 40) (l := held) fun x hx => (sh_ln (g.own x hx).1 (g.own x hx).2).2.1
  have c2 := depthAll_map (f := lnDt) (n := 2) (l := held) fun x hx => (sh_ln (g.own x hx).1 (g.own x hx).2).2.2
  have h1 := g.pls
  have h2 := g.hls
  unfold stD
  simp only [shD, shAll, a, a2, PyData.weight, PyData.weightAll, PyData.depth, PyData.depthAll]
  refine ⟨rfl, by omega, by omega⟩
theorem sh_step {s : Step} (g : SmStep s) : shD (stepD s) = true ∧ (stepD s).weight ≤ 500 ∧ (stepD s).depth ≤ 5 := by
  obtain ⟨a1, a2, a3⟩ := sh_nat g.th
  obtain ⟨b1, b2, b3⟩ := sh_tg g.tg
  obtain ⟨c1, c2, c3⟩ := sh_nat (n := s.2.2.1) (by have := g.mv; omega)
  obtain ⟨d1, d2, d3⟩ := sh_st g.st
  unfold stepD
  rw [shD, shAll, shAll, shAll, shAll, shAll, a1, b1, c1, d1, PyData.weight, PyData.weightAll, PyData.weightAll, PyData.weightAll, PyData.weightAll, PyData.weightAll, PyData.depth, PyData.depthAll, PyData.depthAll, PyData.depthAll, PyData.depthAll, PyData.depthAll, a3, b3, c3]
  refine ⟨rfl, by omega, by omega⟩
theorem sh_steps {ss : List Step} (g : ∀ s ∈ ss, SmStep s) (few : ss.length ≤ 400) : shD (.list (ss.map stepD)) = true ∧ (PyData.list (ss.map stepD)).weight ≤ 1000000 ∧ (PyData.list (ss.map stepD)).depth ≤ 64 := by
  have a := shAll_map (f := stepD) (l := ss) fun x hx => (sh_step (g x hx)).1
  have b := weightAll_map (f := stepD) (b := 500) (l := ss) fun x hx => (sh_step (g x hx)).2.1
  have c := depthAll_map (f := stepD) (n := 5) (l := ss) fun x hx => (sh_step (g x hx)).2.2
  rw [shD, a, PyData.weight, PyData.depth]
  refine ⟨rfl, by omega, by omega⟩
theorem repr_dat {K : PySem.W.Frag} {H : Hp} {a : Addr} {d : PyData} (h : Dp K H (.ref a) d) (sh : shD d = true) (w : d.weight ≤ 1000000) (dp : d.depth ≤ 64) : ReprIs K H (.ref a) d.shown := by
  obtain ⟨h1, h2, _⟩ := sh_show _ sh
  exact .dat h h1 h2 dp (shown_fits sh w)
end Vf

set_option maxRecDepth 100000
set_option maxHeartbeats 8000000
namespace Vf
open PySem PySem.Spec PyProof.Rows L2
theorem getD_get {α : Type} {xs : List α} {i : Nat} {d x : α} (h : xs[i]? = some x) : xs.getD i d = x := by
  rw [List.getD_eq_getElem?_getD, h]
  rfl
theorem rises_srt {ns : List Nat} {th : Nat} (h : rises ns = true) (hn : th ∉ ns) : rises (srtN (ns ++ [th])) = true := by
  rw [rises_iff] at h ⊢
  have nd : (ns ++ [th]).Nodup := List.nodup_append.mpr ⟨h.imp fun q => Nat.ne_of_lt q, by simp, fun a ha b hb => by
    rw [List.mem_singleton.mp hb]
    exact fun z => hn (z ▸ ha)⟩
  have nd2 : (srtN (ns ++ [th])).Nodup := (srtN_perm _).nodup_iff.mpr nd
  have so := List.pairwise_mergeSort (le := fun a b : Nat => decide (a ≤ b)) (fun a b c h1 h2 => decide_eq_true (Nat.le_trans (of_decide_eq_true h1) (of_decide_eq_true h2))) (fun a b => by simp [Nat.le_total]) (ns ++ [th])
  refine (List.Pairwise.and so nd2).imp fun {a b} q => ?_
  have q1 := of_decide_eq_true q.1
  have q2 : a ≠ b := q.2
  omega
theorem touch_len {held : List Ln} {th n : Nat} {wr : Bool} : (touch held th n wr).2.length = held.length := by
  unfold touch
  dsimp only
  split
  · rfl
  · exact List.length_set ..
theorem touch_mv {held : List Ln} {th n : Nat} {wr : Bool} : (touch held th n wr).1 ≤ 1 := by
  unfold touch
  dsimp only
  split
  · exact Nat.zero_le _
  · exact Nat.le_refl _
theorem touch_own {held : List Ln} {th n many : Nat} {wr : Bool} (ht : th < many) (own : ∀ l ∈ held, (∀ t ∈ l.1, t < many) ∧ rises l.1 = true ∧ (l.2 = true → l.1.length = 1)) : ∀ l ∈ (touch held th n wr).2, (∀ t ∈ l.1, t < many) ∧ rises l.1 = true ∧ (l.2 = true → l.1.length = 1) := by
  have e0 : (∀ t ∈ (held.getD n ([], false)).1, t < many) ∧ rises (held.getD n ([], false)).1 = true := by
    rw [List.getD_eq_getElem?_getD]
    cases e : held[n]? with
    | none => exact ⟨(fun t h => nomatch h), rfl⟩
    | some l => exact ⟨(own l (List.mem_of_getElem? e)).1, (own l (List.mem_of_getElem? e)).2.1⟩
  unfold touch
  dsimp only
  generalize held.getD n ([], false) = l0 at e0
  split
  · exact own
  · rename_i hno
    intro l hl
    rcases List.mem_or_eq_of_mem_set hl with h | h
    · exact own l h
    · subst h
      cases wr with
      | true =>
        refine ⟨fun t h => ?_, rfl, fun _ => rfl⟩
        rw [List.mem_singleton.mp h]
        exact ht
      | false =>
        refine ⟨fun t h => ?_, rises_srt e0.2 fun z => hno ⟨z, .inr rfl⟩, fun z => Bool.noConfusion z⟩
        rcases List.mem_append.mp ((srtN_perm _).mem_iff.mp h) with h | h
        · exact e0.1 t h
        · rw [List.mem_singleton.mp h]
          exact ht
theorem step_of {ls : List (List Str)} {es : List (List Nd)} {pl : List (Option Nat)} {held : List Ln} {s : Step} (h : s ∈ stepsM ls es pl held) : ∃ (th i : Nat) (n : Nd) (g : Option Nat), th < pl.length ∧ pl[th]? = some (some i) ∧ (es.getD th [])[i]? = some n ∧ g ∈ n.tg ∧
    s = (th, g, (touch held th (lineNo ls n.cell) (wrN n)).1, pl.set th g, (touch held th (lineNo ls n.cell) (wrN n)).2) := by
  obtain ⟨th, h1, h2⟩ := List.mem_flatMap.mp h
  have hth := List.mem_range.mp h1
  have hp : pl[th]? = some pl[th] := List.getElem?_eq_getElem hth
  generalize pl[th] = o at hp
  unfold stepsT at h2
  rw [getD_get hp] at h2
  cases o with
  | none => cases h2
  | some i =>
    dsimp only at h2
    cases e : (es.getD th [])[i]? with
    | none =>
      rw [e] at h2
      cases h2
    | some n =>
      rw [e] at h2
      obtain ⟨g, hg, rfl⟩ := List.mem_map.mp h2
      exact ⟨th, i, n, g, hth, hp, e, hg, rfl⟩
theorem ok_step {ls : List (List Str)} {es : List (List Nd)} {pl : List (Option Nat)} {held : List Ln} {s : Step} (good : GoodEs es ls) (ok : OkSt es ls pl held) (h : s ∈ stepsM ls es pl held) : OkSt es ls s.2.2.2.1 s.2.2.2.2 := by
  obtain ⟨th, i, n, g, h1, h2, h3, h4, rfl⟩ := step_of h
  have hes : es[th]? = some (es.getD th []) := by
    have hl : th < es.length := by rw [← ok.pls]; exact h1
    rw [List.getD_eq_getElem?_getD, List.getElem?_eq_getElem hl]
    rfl
  have gn := ((good _ (List.mem_of_getElem? hes)).1.all n (List.mem_of_getElem? h3)).tg
  refine ⟨by rw [List.length_set]; exact ok.pls, fun t j hj => ?_, by rw [touch_len]; exact ok.hls, touch_own (by rw [← ok.pls]; exact h1) ok.own⟩
  by_cases e : t = th
  · subst e
    rw [List.getElem?_set_self h1] at hj
    obtain rfl : g = some j := Option.some.inj hj
    exact gn.lt h4
  · rw [List.getElem?_set_ne (fun z => e z.symm)] at hj
    exact ok.pin t j hj
theorem sm_of {ls : List (List Str)} {es : List (List Nd)} {pl : List (Option Nat)} {held : List Ln} (good : GoodEs es ls) (ok : OkSt es ls pl held) (h3 : es.length ≤ 3) (h6 : ls.length ≤ 6) : SmSt pl held := by
  refine ⟨by rw [ok.pls]; exact h3, fun i hi => ?_, by rw [ok.hls]; exact h6, fun l hl => ?_⟩
  · obtain ⟨th, hth⟩ := List.mem_iff_getElem?.mp hi
    have a := ok.pin th i hth
    have hl : th < es.length := by
      rw [← ok.pls]
      exact (List.getElem?_eq_some_iff.mp hth).1
    have hes : es[th]? = some (es.getD th []) := by
      rw [List.getD_eq_getElem?_getD, List.getElem?_eq_getElem hl]
      rfl
    have b := (good _ (List.mem_of_getElem? hes)).1.few
    omega
  · obtain ⟨o1, o2, _⟩ := ok.own l hl
    exact ⟨Nat.le_trans (rises_max o2 o1) h3, fun t ht => by have := o1 t ht; omega⟩
theorem sm_step {ls : List (List Str)} {es : List (List Nd)} {pl : List (Option Nat)} {held : List Ln} {s : Step} (good : GoodEs es ls) (ok : OkSt es ls pl held) (h3 : es.length ≤ 3) (h6 : ls.length ≤ 6) (h : s ∈ stepsM ls es pl held) : SmStep s := by
  have o2 := ok_step good ok h
  have st := sm_of good o2 h3 h6
  obtain ⟨th, i, n, g, h1, h2, hn, h4, rfl⟩ := step_of h
  have a := ok.pls
  refine ⟨by show th < 1000; omega, fun j hj => ?_, touch_mv, st⟩
  refine st.pin j ?_
  show some j ∈ pl.set th g
  obtain rfl : g = some j := hj
  exact List.mem_of_getElem? (List.getElem?_set_self h1)
theorem steps_few {ls : List (List Str)} {es : List (List Nd)} {pl : List (Option Nat)} {held : List Ln} (good : GoodEs es ls) (ok : OkSt es ls pl held) (h3 : es.length ≤ 3) : (stepsM ls es pl held).length ≤ 400 := by
  have ntg : ∀ ns ∈ es, ∀ n ∈ ns, n.tg.length ≤ 100 := fun ns h1 n h2 => by
    have a1 := ((good ns h1).1.all n h2).tg.len
    have a2 := (good ns h1).1.few
    omega
  have a := steps_len (ls := ls) (es := es) (pl := pl) (held := held) ntg pl.length
  have b := ok.pls
  unfold stepsM
  omega
end Vf

set_option maxRecDepth 100000
set_option maxHeartbeats 4000000
namespace Vf
open PySem PySem.Spec PyProof.Rows L2
/-- the keys of the locked dict at d, each key's own tuple -/
def Itkn (P : Program) (w : World) (d : Addr) (o : Obj) (xs : List (NK × Addr × Value)) : It :=
  ⟨fun i H => H d = some (.frz o (NDo P w d xs)) ∧ i < xs.length, fun i H x H' => H' = H ∧ ∃ k q v, xs[i]? = some (k, q, v) ∧ x = .ref q, fun i H => H d = some (.frz o (NDo P w d xs)) ∧ xs.length ≤ i⟩
theorem frzN {X : Cx} {pins : List (Addr × Obj)} {σ : L2.St} {H : Hp} {s : Shared} {d : Addr} {o : Obj} {xs : List (NK × Addr × Value)} (I : Inv X pins σ H s) (h : H d = some (.frz o (NDo X.prog X.w d xs))) :
    s.heap.get? d = some o ∧ o.ExactDict ∧ ∃ (es : Array DictEntry) (ep : Nat), o.data = .dict es ep ∧ es.size = xs.length ∧ es.toList = xs.map (entryOfKey (nk X.prog X.w)) := by
  obtain ⟨hd, ⟨o', es, ep, ho, hx, hdt, he, _⟩, _⟩ := I.hok d _ h
  rw [hd] at ho
  cases ho
  refine ⟨hd, hx, es, ep, hdt, ?_, he⟩
  rw [← Array.length_toList, he, List.length_map]
section
variable {P : Program} {w : World} {K : PySem.W.Frag} {tg : Expr} {d : Addr} {o : Obj} {es : Array DictEntry} {ep : Nat}
theorem turn_keysN {xs : List (NK × Addr × Value)} (it : Addr) (hod : o.data = .dict es ep) : Turn P w K tg (Itkn P w d o xs) [it] it (fun i h => h.IsKeyIter it d i xs.length ep) where
  mem := by simp
  obj := fun i h st b hb => by
    have e : b = it := by simpa using hb
    subst e
    obtain ⟨oi, e, c, dd⟩ := st
    exact ⟨oi, e, fun v z => by rw [dd] at z; cases z⟩
  keep := fun i h h' st k => st.at fun oi e => k it (by simp) oi e
  item := by
    intro X hP hw hK hc i pins s σ H E I hf st hg
    subst hP hw hK
    obtain ⟨hd, hi⟩ := hg
    obtain ⟨f0, f1, f2, f3, f4, f5⟩ := hf it (by simp)
    obtain ⟨hgd, hx, es', ep', hdt, hsz, he⟩ := frzN I hd
    obtain ⟨rfl, rfl⟩ := dict_ep hod hdt
    obtain ⟨⟨k, q, v⟩, hkv⟩ : ∃ p, xs[i]? = some p := ⟨xs[i], List.getElem?_eq_getElem hi⟩
    have hen : es'[i]? = some (entryOfKey (nk X.prog X.w) (k, q, v)) := by
      rw [entry_at he, hkv]
      rfl
    refine next_key_item st hgd hdt hsz hen fun h' st' sb => ?_
    have I1 : Inv X pins σ H { s with heap := h' } := I.turned (t' := s.toks) (fun b ob hb e => (sb.2 b hb).trans e) f0 f1 f3 f4 f5
    obtain ⟨oi, e, c, dd⟩ := id st'
    exact ⟨.ref q, rfl, go_of (s := { s with heap := h' }) e c dd (by decide) ⟨.ref q, H, I1, rfl, ⟨rfl, k, q, v, hkv, rfl⟩, st', fun b hb => (hf b hb).1⟩⟩
  done := by
    intro X hP hw hK hc i pins s σ H E I hf st hg
    subst hP hw hK
    obtain ⟨hd, hi⟩ := hg
    obtain ⟨f0, f1, f2, f3, f4, f5⟩ := hf it (by simp)
    obtain ⟨hgd, hx, es', ep', hdt, hsz, he⟩ := frzN I hd
    obtain ⟨rfl, rfl⟩ := dict_ep hod hdt
    exact next_key_end (I.ok.hd hc) st hgd hdt hsz hi fun h' eb => ⟨rfl, I.turned (t' := s.toks) (fun b ob hb e => eb b ob hb e) f0 f1 f3 f4 f5⟩
  self := fun A i s Q E st h => wpAny_pyIter_keyiter st h
theorem walk_keysN {xs : List (NK × Addr × Value)} : Walk (Itkn P w d o xs) xs.length (fun H => H d = some (.frz o (NDo P w d xs))) (fun i H x H' => H' = H ∧ ∃ k q v, xs[i]? = some (k, q, v) ∧ x = .ref q) :=
  ⟨fun _ _ hi h => ⟨h, hi⟩, fun _ h => ⟨h, Nat.le_refl _⟩, fun _ _ _ _ _ _ y => y⟩
end
/-- the dict is locked -/
def iKeysN (P : Program) (w : World) (td : TE) : TI := fun σ H R => td σ H fun x H1 => ∃ d o xs, x = .ref d ∧ (d == sysModules) = false ∧ H1 d = some (.frz o (NDo P w d xs)) ∧ R (Itkn P w d o xs) H1
theorem pi_keysN {X : Cx} {tg e : Expr} {td : TE} (he : PE X e td) : PI X tg e (iKeysN X.prog X.w td) := by
  refine ⟨fun pins s σ H R I h => ?_⟩
  refine thn (he.run pins s σ H _ I h) fun u s1 ⟨x, H1, I1, rx, d, o, xs, ex, nos, hd, q⟩ => ?_
  subst ex
  obtain rfl : u = Value.ref d := rx
  obtain ⟨hgd, hx, es, ep, hdt, hsz, _⟩ := frzN I1 hd
  refine iter_keys nos hgd hx hdt (pi_one (tk := s1.toks) I1 _ (turn_keysN _ hdt) ⟨_, Heap.get?_push_size _ rfl, rfl, ?_⟩ q)
  rw [hsz] <;> rfl
/-- len(d) -/
def rLenN (P : Program) (w : World) : List V → Hp → VK → Prop := fun vs H Q => ∃ a kvs, vs = [.ref a] ∧ ND P w H a kvs ∧ Q (.int (kvs.length : Nat)) H
end Vf

set_option maxRecDepth 100000
set_option maxHeartbeats 4000000
namespace Vf
open PySem PySem.Spec PyProof.Rows L2
section
variable {X : Cx}
theorem cr_lenN : CallR X (.builtin "len") (rLenN X.prog X.w) := by
  intro pins s σ H vs us Q I r h
  obtain ⟨a, kvs, rfl, d, q⟩ := h
  rw [Vals.ref1 r]
  obtain ⟨xs, rel, dd, _⟩ := d.of I.hok
  have hl : kvs.length = xs.length := Paired.length rel
  have fit := d.fits
  rw [sizeLine_eq] at fit
  have dk : s.heap.DictKeyed (nk X.prog X.w) a (pairsH xs) := ⟨xs, dd, rfl⟩
  refine Calls.call_function_entry kind_len plain_len entry_len (args_len1 _) ?_
  unfold Builtin.«len»
  refine wpAny_bind (m := oneArg "len" _) (wpAny_pure ?_)
  refine wpAny_bind (m := callSpecial? (.ref a) (Str.ofString "__len__")) (wpAny_callSpecial?_slot (name := Str.ofString "__len__") dd.typeIs PySem.F.slot_dict_len (len_keyed d.nosys dk ?_))
  rw [pairsH_length, ← hl]
  refine wpAny_bind (wpAny_holding (wpAny_pure ?_))
  refine wpAny_bind (wpAny_letGo ?_)
  show wpAny _ _ (if ((kvs.length : Nat) : Int) < 0 then _ else _) _ _ _
  rw [if_neg (by omega)]
  show wpAny _ _ (if ((kvs.length : Nat) : Int) ≥ 2 ^ 63 then _ else _) _ _ _
  rw [if_neg (by omega)]
  exact wpAny_bind (wpAny_mkInt (wpAny_pure ⟨_, rfl, .int _, H, I.tok _, ⟨_, rfl⟩, q⟩))
/-- {k: v}; the new dict stands empty while the pair is made -/
def tDisp1N (P : Program) (w : World) (tk tv : TE) : TE := fun σ H Q => ∀ p, H p = none → ND P w (upd H p (NDo P w p [])) p [] → tk σ (upd H p (NDo P w p [])) fun x H1 => tv σ H1 fun y H2 =>
  ∃ b k, x = .ref b ∧ NestH H2 b k ∧ H2 p = some (NDo P w p []) ∧ ∀ u, ND P w (upd H2 p u) p [(k, y)] → Q (.ref p) (upd H2 p u)
theorem pe_disp1N {ke ve : Expr} {pos : Pos} {tk tv : TE} (hu : X.A.units + 16 < cLine) (hk : PE X ke tk) (hv : PE X ve tv) : PE X (.Dict [some ke] [ve] pos) (tDisp1N X.prog X.w tk tv) := by
  refine ⟨fun pins s σ H Q I h => ?_⟩
  have hn := I.hok.fresh (Nat.le_refl s.heap.objs.size)
  have nos : (s.heap.objs.size == sysModules) = false := beq_eq_false_iff_ne.mpr (Ne.symm (Nat.ne_of_lt I.big))
  have d0 : (s.heap.push { cls := .type "dict", data := .dict #[] }).DictOfH (nk X.prog X.w) s.heap.objs.size [] := ⟨_, #[], 0, Heap.get?_push_size _ rfl, ⟨rfl, rfl, rfl⟩, rfl, rfl, fun x hx => (nomatch hx), List.nodup_nil⟩
  have I1 := I.laid (a := s.heap.objs.size) (o := NDo X.prog X.w s.heap.objs.size []) (t' := s.toks) (h' := s.heap.push { cls := .type "dict", data := .dict #[] }) (fun _ _ q => Heap.get?_push_of_some _ q) (Nat.le_refl _) (ndo_ok d0)
  have run := (pps_cons (pos := pos) hk hv pps_nil).run pins _ σ _ (fun ps H2 => match ps with | [(x, y)] => ∃ b k, x = V.ref b ∧ NestH H2 b k ∧ H2 s.heap.objs.size = some (NDo X.prog X.w s.heap.objs.size []) ∧ ∀ u, ND X.prog X.w (upd H2 s.heap.objs.size u) s.heap.objs.size [(k, y)] → Q (.ref s.heap.objs.size) (upd H2 s.heap.objs.size u) | _ => False) I1 (h _ hn ⟨Nat.zero_le _, nos, [], upd_same, .nil⟩)
  rw [arm_eval_Dict, zip_pairTrees [some ke] [ve] X.env pos rfl rfl, dictDisplay_pairs (pairTrees [some ke] [ve] X.env pos) (by simp [pairTrees]) (by simp [pairTrees])]
  refine wpAny_bind (wpAny_standAt (wpAny_bind (wpAny_subDictH (knd := nk X.prog X.w) (by show X.A.units + 8 < cLine; omega) (by simp [pairTrees]) (thn run fun ws s2 ⟨ps, H2, I2, rel, qq⟩ => ?_))))
  match ps, qq, rel with
  | [(x, y)], ⟨b, k, ex, hkk, e2, q⟩, .cons (b := (u1, u2)) r1 .nil =>
    subst ex
    obtain ⟨rx, ry⟩ := r1
    obtain rfl : u1 = Value.ref b := rx
    have emp : ND X.prog X.w H2 s.heap.objs.size [] := ⟨Nat.zero_le _, nos, [], e2, .nil⟩
    obtain ⟨xs, rel0, dd, _⟩ := emp.of I2.hok
    cases rel0
    refine ⟨[(k, b, u2)], ⟨rfl, rfl, hkk.is I2.hok, trivial⟩, dd, fun h' tk dd' hs => ?_⟩
    have he : ∃ q, h'.get? s.heap.objs.size = some q := let ⟨q, _, _, hq, _⟩ := dd'; ⟨q, hq⟩
    have st : ∀ c ys, H2 c = some (.tup ys) → (upd H2 s.heap.objs.size (NDo X.prog X.w s.heap.objs.size (storedAllH [] [(k, b, u2)]))) c = some (.tup ys) := fun c ys e => by
      rw [upd_ne (ne_of e e2 (fun z => ndo_ne z.symm))]
      exact e
    refine wpAny_pure ⟨.ref s.heap.objs.size, _, d_write I2 (by rw [e2]; exact True.intro) hs he (ndo_ok dd'), rfl, q _ ⟨by show 1 ≤ sizeLine; decide, nos, _, upd_same, ?_⟩⟩
    exact .cons ⟨rfl, hkk.same st, ry⟩ .nil
end
end Vf

set_option maxRecDepth 100000
set_option maxHeartbeats 8000000
namespace Vf
open PySem PySem.Spec PyProof.Rows L2
theorem map_inj {α β : Type} {f : α → β} (hf : ∀ a b, f a = f b → a = b) : ∀ {xs ys : List α}, xs.map f = ys.map f → xs = ys
  | [], [], _ => rfl
  | [], _ :: _, h => by cases h
  | _ :: _, [], h => by cases h
  | x :: xs, y :: ys, h => by
    rw [List.map_cons, List.map_cons] at h
    injection h with h1 h2
    rw [hf _ _ h1, map_inj hf h2]
theorem plK_inj : ∀ a b : Option Nat, plK a = plK b → a = b
  | none, none, _ => rfl
  | none, some _, h => by cases h
  | some _, none, h => by cases h
  | some a, some b, h => by
    have h' : (a : Int) = (b : Int) := PySem.NestedKey.num.inj h
    rw [Int.ofNat_inj.mp h']
theorem lnK_inj (a b : Ln) (h : lnK a = lnK b) : a = b := by
  obtain ⟨xs, c⟩ := a
  obtain ⟨ys, d⟩ := b
  have h1 := PySem.NestedKey.tup.inj h
  injection h1 with h2 h3
  injection h3 with h4 _
  have e1 : xs = ys := map_inj (f := fun n : Nat => PySem.NestedKey.num (n : Int)) (fun a b e => Int.ofNat_inj.mp (PySem.NestedKey.num.inj e)) (PySem.NestedKey.tup.inj h2)
  have e2 : (if c = true then (1 : Int) else 0) = if d = true then 1 else 0 := PySem.NestedKey.num.inj h4
  subst e1
  cases c <;> cases d <;> first | rfl | exact absurd e2 (by decide)
theorem stK_inj {pl pl' : List (Option Nat)} {held held' : List Ln} (h : stK pl held = stK pl' held') : pl = pl' ∧ held = held' := by
  have h1 := PySem.NestedKey.tup.inj h
  injection h1 with h2 h3
  injection h3 with h4 _
  exact ⟨map_inj plK_inj (PySem.NestedKey.tup.inj h2), map_inj lnK_inj (PySem.NestedKey.tup.inj h4)⟩
section
variable {P : Program} {w : World} {K : PySem.W.Frag} {mg : Str → Option Value} {base : Heap}
/-- keys that hold the start and all that steps lead to -/
def Closed (ls : List (List Str)) (es : List (List Nd)) (S : List NK) : Prop := stK (es.map fun _ => some 0) (ls.map fun _ => ([], false)) ∈ S ∧
  ∀ pl held, OkSt es ls pl held → stK pl held ∈ S → ∀ s ∈ stepsM ls es pl held, stK s.2.2.2.1 s.2.2.2.2 ∈ S
theorem StepsT.keep {H H' : Hp} {l : Addr} {ss : List Step} (h : StepsT H l ss) (e : H' l = H l) (t : Tups H H') : StepsT H' l ss := by
  obtain ⟨qs, h1, h2, h3⟩ := h
  exact ⟨qs, e.trans h1, h2, fun q hq => (h3 q hq).tups t⟩
/-- the graph at a: its keys are the states that can be reached, its values their steps -/
structure GraphAt (P : Program) (w : World) (H : Hp) (a : Addr) (es : List (List Nd)) (ls : List (List Str)) (kvs : List (NK × V)) (xs : List (NK × Addr × Value)) : Prop where
  nd : NDx P w H a kvs xs
  st : ∀ (i : Nat) (x : NK × Addr × Value) (kv : NK × V), xs[i]? = some x → kvs[i]? = some kv → ∃ pl held, kv.1 = stK pl held ∧ StT H x.2.1 pl held ∧ OkSt es ls pl held ∧ ∃ l, kv.2 = .ref l ∧ StepsT H l (stepsM ls es pl held)
  cl : Closed ls es (kvs.map Prod.fst)
  mn : ∀ S, Closed ls es S → ∀ k ∈ kvs.map Prod.fst, k ∈ S
  nk : (kvs.map Prod.fst).Nodup
theorem ndo_lst {P : Program} {w : World} {a : Addr} {xs : List (NK × Addr × Value)} {ys : List V} : NDo P w a xs ≠ .lst ys := fun z => by
  unfold NDo at z
  cases z
abbrev Wt := Addr × List (Option Nat) × List Ln
/-- the walk under way -/
structure GI (P : Program) (w : World) (H H' : Hp) (D W : Addr) (es : List (List Nd)) (ls : List (List Str)) (ws : List Wt) (kvs : List (NK × V)) (xs : List (NK × Addr × Value)) : Prop where
  b : Same H H'
  nd : NDx P w H' D kvs xs
  st : ∀ (i : Nat) (x : NK × Addr × Value) (kv : NK × V), xs[i]? = some x → kvs[i]? = some kv → ∃ pl held, kv.1 = stK pl held ∧ StT H' x.2.1 pl held ∧ OkSt es ls pl held ∧ ∃ l, kv.2 = .ref l ∧ l ≠ W ∧ StepsT H' l (stepsM ls es pl held)
  wt : H' W = some (.lst (ws.map fun q => V.ref q.1))
  it : ∀ q ∈ ws, StT H' q.1 q.2.1 q.2.2 ∧ OkSt es ls q.2.1 q.2.2
  nk : (kvs.map Prod.fst).Nodup
  cl : ∀ S, Closed ls es S → (∀ k ∈ kvs.map Prod.fst, k ∈ S) ∧ ∀ q ∈ ws, stK q.2.1 q.2.2 ∈ S
  so : xs ≠ [] ∨ ws ≠ []
/-- what steps lead to is found or waits -/
def Proc (ls : List (List Str)) (es : List (List Nd)) (keys wk : List NK) (ok : NK → Step → Prop) : Prop := ∀ pl held, OkSt es ls pl held → stK pl held ∈ keys → ∀ s ∈ stepsM ls es pl held, ok (stK pl held) s → stK s.2.2.2.1 s.2.2.2.2 ∈ keys ∨ stK s.2.2.2.1 s.2.2.2.2 ∈ wk
abbrev wkey (q : Wt) : NK := stK q.2.1 q.2.2
section
variable {H H' H'' : Hp} {D W : Addr} {es : List (List Nd)} {ls : List (List Str)} {ws : List Wt} {kvs : List (NK × V)} {xs : List (NK × Addr × Value)}
theorem GI.dw (g : GI P w H H' D W es ls ws kvs xs) : D ≠ W := ne_of g.nd.at_ g.wt ndo_lst
theorem GI.same (g : GI P w H H' D W es ls ws kvs xs) (s : Same H' H'') : GI P w H H'' D W es ls ws kvs xs :=
  ⟨g.b.trans s, g.nd.tups ((s _ _ g.nd.at_).trans g.nd.at_.symm) fun c ys e => s _ _ e, fun i x kv hx hk => by
    obtain ⟨pl, held, h1, h2, h3, l, h4, h5, h6⟩ := g.st i x kv hx hk
    obtain ⟨qs, e1, _⟩ := id h6
    exact ⟨pl, held, h1, h2.tups (Vf.Same.tups s), h3, l, h4, h5, h6.keep ((s _ _ e1).trans e1.symm) (Vf.Same.tups s)⟩, s _ _ g.wt, fun q hq => ⟨(g.it q hq).1.tups (Vf.Same.tups s), (g.it q hq).2⟩, g.nk, g.cl, g.so⟩
theorem GI.setW {ws' : List Wt} (g : GI P w H H' D W es ls ws kvs xs) (hW : H W = none) (h1 : ∀ q ∈ ws', StT H' q.1 q.2.1 q.2.2 ∧ OkSt es ls q.2.1 q.2.2) (h2 : ∀ S, Closed ls es S → ∀ q ∈ ws', stK q.2.1 q.2.2 ∈ S) (h3 : xs ≠ [] ∨ ws' ≠ []) :
    GI P w H (upd H' W (.lst (ws'.map fun q => V.ref q.1))) D W es ls ws' kvs xs := by
  have t : Tups H' (upd H' W (.lst (ws'.map fun q => V.ref q.1))) := Vf.But.tups (p := W) ((But.refl W H').put) g.wt
  exact ⟨same_upd g.b hW, g.nd.tups (upd_ne g.dw) t, fun i x kv hx hk => by
    obtain ⟨pl, held, h1, h2, h3, l, h4, h5, h6⟩ := g.st i x kv hx hk
    exact ⟨pl, held, h1, h2.tups t, h3, l, h4, h5, h6.keep (upd_ne h5) t⟩, upd_same, fun q hq => ⟨(h1 q hq).1.tups t, (h1 q hq).2⟩, g.nk, fun S hS => ⟨(g.cl S hS).1, h2 S hS⟩, h3⟩
theorem keys_kn : ∀ {kvs : List (NK × V)} {xs : List (NK × Addr × Value)}, KN H kvs xs → kvs.map Prod.fst = xs.map (·.1)
  | _, _, .nil => rfl
  | _, _, .cons h t => by
    rw [List.map_cons, List.map_cons, h.1, keys_kn t]
theorem GI.len (g : GI P w H H' D W es ls ws kvs xs) : kvs.length = xs.length := Paired.length g.nd.rel
/-- a new state is found -/
theorem GI.put {x l : Addr} {pl : List (Option Nat)} {held : List Ln} {u : HO} {z : Value} (g : GI P w H H' D W es ls ws kvs xs) (hD : H D = none) (hx : StT H' x pl held) (ok : OkSt es ls pl held) (hl : l ≠ W) (hsteps : StepsT H' l (stepsM ls es pl held)) (hno : valV kvs (stK pl held) = none) (hcl : ∀ S, Closed ls es S → stK pl held ∈ S)
    (d : NDx P w (upd H' D u) D (kvs ++ [(stK pl held, .ref l)]) (xs ++ [(stK pl held, x, z)])) : GI P w H (upd H' D u) D W es ls ws (kvs ++ [(stK pl held, .ref l)]) (xs ++ [(stK pl held, x, z)]) := by
  have t : Tups H' (upd H' D u) := fun c ys e => by
    rw [upd_ne (ne_of e g.nd.at_ fun q => ndo_ne q.symm)]
    exact e
  have sk : ∀ {l : Addr} {ss : List Step}, StepsT H' l ss → StepsT (upd H' D u) l ss := fun h => by
    obtain ⟨qs, e1, _⟩ := id h
    exact h.keep (upd_ne (ne_of e1 g.nd.at_ fun q => ndo_lst q.symm)) t
  refine ⟨same_upd g.b hD, d, fun i y kv hy hk => ?_, by rw [upd_ne g.dw.symm]; exact g.wt, fun q hq => ⟨(g.it q hq).1.tups t, (g.it q hq).2⟩, ?_, fun S hS => ⟨fun k hk => ?_, (g.cl S hS).2⟩, .inl (by simp)⟩
  · have lk := g.len
    by_cases hi : i < xs.length
    · rw [List.getElem?_append_left hi] at hy
      rw [List.getElem?_append_left (by omega)] at hk
      obtain ⟨pl, held, h1, h2, h3, l, h4, h5, h6⟩ := g.st i y kv hy hk
      exact ⟨pl, held, h1, h2.tups t, h3, l, h4, h5, sk h6⟩
    · have hh := (List.getElem?_eq_some_iff.mp hy).1
      rw [List.length_append, List.length_singleton] at hh
      obtain rfl : i = xs.length := by omega
      rw [List.getElem?_append_right (Nat.le_refl _), Nat.sub_self] at hy
      rw [← lk, List.getElem?_append_right (Nat.le_refl _), Nat.sub_self] at hk
      obtain rfl := Option.some.inj hy
      obtain rfl := Option.some.inj hk
      exact ⟨pl, held, rfl, hx.tups t, ok, l, rfl, hl, sk hsteps⟩
  · rw [List.map_append]
    refine List.nodup_append.mpr ⟨g.nk, by simp, fun a ha b hb e => ?_⟩
    rw [show b = stK pl held from List.mem_singleton.mp hb] at e
    obtain ⟨p, hp, rfl⟩ := List.mem_map.mp ha
    have := valV_any (kvs := kvs) (k := stK pl held)
    rw [hno] at this
    exact Bool.false_ne_true (this.symm.trans (List.any_eq_true.mpr ⟨p, hp, decide_eq_true e⟩))
  · rw [List.map_append] at hk
    rcases List.mem_append.mp hk with hk | hk
    · exact (g.cl S hS).1 k hk
    · rw [List.mem_singleton.mp hk]
      exact hcl S hS
end
theorem ok_begin {es : List (List Nd)} {ls : List (List Str)} (good : GoodEs es ls) : OkSt es ls (es.map fun _ => some 0) (ls.map fun _ => ([], false)) := by
  refine ⟨List.length_map _, fun th i h => ?_, List.length_map _, fun l hl => ?_⟩
  · rw [List.getElem?_map] at h
    obtain ⟨ns, e1, e2⟩ := Option.map_eq_some_iff.mp h
    obtain rfl : 0 = i := Option.some.inj e2
    rw [getD_get e1]
    exact List.length_pos_iff.mpr (good ns (List.mem_of_getElem? e1)).1.some
  · obtain ⟨_, _, rfl⟩ := List.mem_map.mp hl
    exact ⟨(fun t h => nomatch h), rfl, fun h => Bool.noConfusion h⟩
theorem nodup_le {S ks : List NK} (nd : ks.Nodup) (h : ∀ k ∈ ks, k ∈ S) : ks.length ≤ S.length := by
  induction ks generalizing S with
  | nil => exact Nat.zero_le _
  | cons k ks ih =>
    obtain ⟨h1, h2⟩ := List.nodup_cons.mp nd
    have hk := h k List.mem_cons_self
    obtain ⟨A, B, e⟩ := List.append_of_mem hk
    have := ih (S := A ++ B) h2 fun j hj => by
      have hj2 := h j (List.mem_cons_of_mem _ hj)
      rw [e] at hj2
      rcases List.mem_append.mp hj2 with q | q
      · exact List.mem_append_left _ q
      · rcases List.mem_cons.mp q with q | q
        · exact absurd (q ▸ hj) h1
        · exact List.mem_append_right _ q
    rw [e, List.length_append, List.length_cons]
    rw [List.length_append] at this
    rw [List.length_cons]
    omega
abbrev k0G (ls : List (List Str)) (es : List (List Nd)) : NK := stK (es.map fun _ => some 0) (ls.map fun _ => ([], false))
def sp_law_graph (P : Program) (w : World) : Sp := fun vs H Q _ => ∃ (a b : Addr) (most : Nat) (rs : List (Addr × List Str)) (es : List (List Nd)), vs = [.ref a, .ref b, .int (most : Int)] ∧ OrdAt H a rs ∧ EvAt H b es ∧ es.length ≤ 3 ∧ rs.length ≤ 6 ∧ GoodEs es (rs.map Prod.snd) ∧ (rs.map Prod.snd).flatten.Nodup ∧ most ≤ 1000 ∧
  (∀ q kvs xs H', Same H H' → H q = none → GraphAt P w H' q es (rs.map Prod.snd) kvs xs → xs ≠ [] → xs.length ≤ most → Q (.ref q) H') ∧ ((∀ S, Closed (rs.map Prod.snd) es S → most < S.length) → ∀ H', Same H H' → Q .non H')
theorem ok_law_graph {f : Addr} {fd : FuncData} (F : Fun K "_law_graph" "_law_graph" s_law_graph f fd) (T : Txt0 K mg) (GS : OkF P w K mg base CX0 "_law_start" p_law_start 1 sp_law_start) (GT : OkF P w K mg base CX0 "_law_steps" p_law_steps 1 sp_law_steps) :
    FnOk P w K mg base CX0 2 f fd p_law_graph (sp_law_graph P w) := by
  refine F.ok sc_law_graph (fun vs H Q E h => ?_) (fun cdv A outer s H vs Q E hr h => ?_)
  · obtain ⟨a, b, most, rs, es, rfl, _⟩ := h
    rfl
  · obtain ⟨a, b, most, rs, es, rfl, hord, hev, few, fewl, good, nd, hmost, k1, k2⟩ := h
    have hu : ∀ {X : Cx}, X.A = (cxOf CX0 P w K mg base n_law_graph "_law_graph" (defScope s_law_graph) f cdv A outer s H E).A → X.A.units + 16 < cLine := fun e => by
      rw [e]
      exact Nat.lt_of_le_of_lt (Nat.add_le_add_left (by decide : 16 ≤ 64) _) hr.units
    refine ⟨_, pss_cons (ps_set (i := 3) sc_law_graph.nd rfl (Or.inl rfl) (pe_fn GS hr rfl pass0 (pa_cons (pv 0) (pa_cons (pv 1) pa_nil))))
      (pss_cons (ps_par (i := 4) (j := 5) rfl sc_law_graph.nd rfl rfl (by decide) rfl rfl (pa_cons pe_dnewN (pa_cons (pe_lst (pa_cons (pv 3) pa_nil)) pa_nil)) (by rfl))
      (pss_cons (ps_while PassesOwn.never (pt_cmpR (op_neD hr.units) (pv 5) (pe_lst pa_nil) (nomark _))
        (pss_cons (ps_set (i := 6) sc_law_graph.nd rfl (Or.inl rfl) (pe_bm0 PySem.F.plainAttrs_list PySem.F.slot_list_pop PySem.F.type_list_pop mt_pop (pv 5)))
        (pss_one (ps_if (pt_cmpR (op_notInN (hu rfl)) (pv 6) (pv 4) (by rfl))
          (pss_cons (ps_asg (pe_fn GT hr rfl pass0 (pa_cons (pv 0) (pa_cons (pv 1) (pa_cons (pv 6) pa_nil)))) (pg_sub (pv 4) (pv 6) (set_nestNew (hu rfl))))
          (pss_cons (ps_if (pt_cmpR op_gt (pe_callB cr_lenN (by rfl) T.len PySem.boot_len (pa_cons (pv 4) pa_nil)) (pv 2) (nomark _)) (pss_one (ps_ret pe_non)) pss_nil)
          (pss_one (ps_for PassesOwn.never rfl (pi_list (pe_dgetN (hu rfl) (pv 4) (pv 6) (fun _ _ => rfl))) (pg_name (i := 7) sc_law_graph.nd rfl (Or.inl rfl))
            (pss_one (ps_if (pt_cmpR (op_notInN (hu rfl)) (pe_ix ix_tup (pv 7) pe_int (fun _ _ => rfl)) (pv 4) (by rfl))
              (pss_one (ps_expr (pe_bm PySem.F.plainAttrs_list PySem.F.slot_list_append PySem.F.type_list_append mt_append (pv 5) (pa_cons (pe_ix ix_tup (pv 7) pe_int (fun _ _ => rfl)) pa_nil)))) pss_nil))))))
          pss_nil))))
      (pss_one (ps_ret (pv 4))))), ?_⟩
    obtain ⟨Qs, hQ1, hQ2, hQ3⟩ := id hev
    have e0 : ((Qs.map fun q => V.ref q.1).map fun _ => (some 0 : Option Nat)) = es.map fun _ => some 0 := by rw [← hQ2, List.map_map, List.map_map]; rfl
    have e1 : ((rs.map fun q => V.ref q.1).map fun _ => (([], false) : Ln)) = (rs.map Prod.snd).map fun _ => ([], false) := by rw [List.map_map, List.map_map]; rfl
    have lQ : Qs.length = es.length := by rw [← hQ2, List.length_map]
    refine ⟨_, rfl, _, rfl, a, b, _, _, rfl, hord.1, hQ1, by rw [List.length_map]; omega, by rw [List.length_map]; omega, fun g H1 s1 hg => ?_⟩
    rw [e0, e1] at hg
    refine fun D hD hnd => ⟨_, rfl, (by show 1 ≤ sizeLine; decide), fun W hW => ⟨_, _, rfl, ?_⟩⟩
    have hD0 : H D = none := s1.free hD
    have sD := same_new (o := NDo P w D []) hD
    have hW0 : H W = none := (s1.trans sD).free hW
    have nd0 := ndx_new hnd
    have sW := same_new (o := .lst [.ref g]) hW
    have okb := ok_begin good
    have gi0 : GI P w H (upd (upd H1 D (NDo P w D [])) W (.lst [.ref g])) D W es (rs.map Prod.snd) [(g, es.map fun _ => some 0, (rs.map Prod.snd).map fun _ => ([], false))] [] [] := by
      refine ⟨s1.trans (sD.trans sW), nd0.tups ((sW _ _ nd0.at_).trans nd0.at_.symm) (fun c ys e => sW _ _ e), (fun i x kv hx => by cases hx), upd_same, fun q hq => ?_, List.nodup_nil, fun S hS => ⟨(fun k hk => nomatch hk), fun q hq => ?_⟩, .inr (by simp)⟩
      · rw [List.mem_singleton.mp hq]
        exact ⟨hg.tups (Vf.Same.tups (sD.trans sW)), okb⟩
      · rw [List.mem_singleton.mp hq]
        exact hS.1
    refine ⟨fun m σ H' => ∃ (v6 v7 : Option V) (ws : List Wt) (kvs : List (NK × V)) (xs : List (NK × Addr × Value)), σ = [some (.ref a), some (.ref b), some (.int (most : Int)), some (.ref g), some (.ref D), some (.ref W), v6, v7] ∧ GI P w H H' D W es (rs.map Prod.snd) ws kvs xs ∧ kvs.length ≤ most ∧ (most + 1 - kvs.length) * 500 + ws.length = m ∧ m ≤ 600000 ∧ Proc (rs.map Prod.snd) es (kvs.map Prod.fst) (ws.map wkey) (fun _ _ => True) ∧ (k0G (rs.map Prod.snd) es ∈ kvs.map Prod.fst ∨ k0G (rs.map Prod.snd) es ∈ ws.map wkey),
      ⟨_, _, _, _, [], [], rfl, gi0, Nat.zero_le _, rfl, by show (most + 1 - 0) * 500 + 1 ≤ 600000; omega, (fun pl held _ h => by cases h), .inr (List.mem_singleton.mpr rfl)⟩, ?_⟩
    rintro m σ H4 ⟨v6, v7, ws, kvs, xs, rfl, gi, lk, rfl, mx, pr, bg⟩
    refine ⟨_, rfl, Nat.zero_le _, fun e1 he1 => ?_⟩
    have gi5 := gi.same (same_new (o := .lst []) he1)
    have shw : shD (.list (ws.map fun q => stD q.2.1 q.2.2)) = true ∧ (PyData.list (ws.map fun q => stD q.2.1 q.2.2)).depth ≤ 64 := by
      have sm : ∀ q ∈ ws, SmSt q.2.1 q.2.2 := fun q hq => sm_of good (gi.it q hq).2 few (by rw [List.length_map]; exact fewl)
      have a1 := shAll_map (f := fun q : Wt => stD q.2.1 q.2.2) (l := ws) fun q hq => (sh_st (sm q hq)).1
      have a2 := depthAll_map (f := fun q : Wt => stD q.2.1 q.2.2) (n := 4) (l := ws) fun q hq => (sh_st (sm q hq)).2.2
      rw [shD, PyData.depth]
      exact ⟨a1, by omega⟩
    refine ⟨.list (ws.map fun q => stD q.2.1 q.2.2), .list [], .lst (SqL.of gi5.wt) (dp_map fun q hq => Vf.StAt.dp (gi5.it q hq).1.at_), .lst (SqL.of upd_same) .nil, shaped_sh shw.1 shw.2, (by decide +kernel), _, rfl, ?_⟩
    generalize (upd H4 e1 (.lst [])) = H5 at gi5 ⊢
    have eqn : PyData.eqv (.list (ws.map fun q => stD q.2.1 q.2.2)) (.list []) = decide (ws = []) := by cases ws <;> simp [PyData.eqv, PyData.eqvAll]
    rw [eqn]
    rcases List.eq_nil_or_concat ws with rfl | ⟨ws0, ⟨x, pl, held⟩, ews⟩
    · refine iteF ⟨_, rfl, ?_⟩
      have nw : ∀ {k : NK}, k ∈ ([] : List Wt).map wkey → False := fun h => by cases h
      exact k1 D kvs xs H5 gi5.b hD0 ⟨gi5.nd, fun i x kv hx hk => (by
        obtain ⟨pl, held, h1, h2, h3, l, h4, _, h6⟩ := gi5.st i x kv hx hk
        exact ⟨pl, held, h1, h2, h3, l, h4, h6⟩), ⟨bg.resolve_right nw, fun pl held ok h s hs => (pr pl held ok h s hs trivial).resolve_right nw⟩, fun S hS => (gi5.cl S hS).1, gi5.nk⟩ (gi5.so.resolve_right fun h => h rfl) (by rw [← gi5.len]; exact lk)
    · rw [List.concat_eq_append] at ews
      subst ews
      rw [decide_eq_false (by simp)]
      refine iteT ⟨_, fun σ' H' h => h, ?_⟩
      refine ⟨_, rfl, .inl ⟨rfl, _, SqL.of gi5.wt⟩, W, _, .ref x, rfl, rfl, gi5.wt, by simp, ?_⟩
      have edrop : ((ws0 ++ [((x, pl, held) : Wt)]).map fun q => V.ref q.1).dropLast = ws0.map fun q => V.ref q.1 := by
        rw [List.map_append]
        exact List.dropLast_concat
      rw [edrop]
      obtain ⟨hx5, okx⟩ := gi5.it (x, pl, held) (by simp)
      have clx : ∀ S, Closed (rs.map Prod.snd) es S → stK pl held ∈ S := fun S hS => (gi5.cl S hS).2 (x, pl, held) (by simp)
      have move : ∀ {ks : List NK} {k : NK}, stK pl held ∈ ks → (k ∈ ks ∨ k ∈ (ws0 ++ [((x, pl, held) : Wt)]).map wkey) → k ∈ ks ∨ k ∈ ws0.map wkey := fun hin h => by
        rcases h with h | h
        · exact .inl h
        · rw [List.map_append] at h
          rcases List.mem_append.mp h with h | h
          · exact .inr h
          · rw [List.mem_singleton.mp h]
            exact .inl hin
      have vsome : ∀ {k : NK}, (valV kvs k).isSome = true → xs ≠ [] := fun {k} h e => by
        have l := gi5.len
        rw [e] at l
        rw [List.length_eq_zero_iff.mp l] at h
        cases h
      have t6 : Tups H5 (upd H5 W (.lst (ws0.map fun q => V.ref q.1))) := Vf.But.tups (p := W) ((But.refl W H5).put) gi5.wt
      have hx6 := hx5.tups t6
      have nd6 : NDx P w (upd H5 W (.lst (ws0.map fun q => V.ref q.1))) D kvs xs := gi5.nd.tups (upd_ne gi5.dw) t6
      have lw : (ws0 ++ [((x, pl, held) : Wt)]).length = ws0.length + 1 := by simp
      refine ⟨_, rfl, _, rfl, D, x, kvs, stK pl held, rfl, rfl, nd6.nd, hx6.key, _, rfl, ?_⟩
      rw [if_pos rfl]
      cases hv : valV kvs (stK pl held) with
      | some v =>
        have xne : xs ≠ [] := vsome (k := stK pl held) (by rw [hv]; rfl)
        have gi6 := gi5.setW (ws' := ws0) hW0 (fun q hq => gi5.it q (List.mem_append_left _ hq)) (fun S hS q hq => (gi5.cl S hS).2 q (List.mem_append_left _ hq)) (.inl xne)
        have hkin : stK pl held ∈ kvs.map Prod.fst := by
          have := valV_any (kvs := kvs) (k := stK pl held)
          rw [hv] at this
          obtain ⟨p, hp, e⟩ := List.any_eq_true.mp this
          exact (of_decide_eq_true e) ▸ List.mem_map_of_mem hp
        exact iteF ⟨(most + 1 - kvs.length) * 500 + ws0.length, by rw [lw]; omega, _, _, ws0, kvs, xs, rfl, gi6, lk, rfl, by rw [lw] at mx; omega, fun pl' held' ok' h' s hs _ => move hkin (pr pl' held' ok' h' s hs trivial), move hkin bg⟩
      | none =>
        refine iteT ?_
        have gi6x : Same H (upd H5 W (.lst (ws0.map fun q => V.ref q.1))) := same_upd gi5.b hW0
        have hord6 := hord.same gi6x
        have hev6 := Vf.EvAt.same hev gi6x
        have w6 : (upd H5 W (.lst (ws0.map fun q => V.ref q.1))) W = some (.lst (ws0.map fun q => V.ref q.1)) := upd_same
        have it6 : ∀ q ∈ ws0, StT (upd H5 W (.lst (ws0.map fun q => V.ref q.1))) q.1 q.2.1 q.2.2 ∧ OkSt es (rs.map Prod.snd) q.2.1 q.2.2 := fun q hq => ⟨(gi5.it q (List.mem_append_left _ hq)).1.tups t6, (gi5.it q (List.mem_append_left _ hq)).2⟩
        have st6 : ∀ (i : Nat) (x : NK × Addr × Value) (kv : NK × V), xs[i]? = some x → kvs[i]? = some kv → ∃ pl held, kv.1 = stK pl held ∧ StT (upd H5 W (.lst (ws0.map fun q => V.ref q.1))) x.2.1 pl held ∧ OkSt es (rs.map Prod.snd) pl held ∧ ∃ l, kv.2 = .ref l ∧ l ≠ W ∧ StepsT (upd H5 W (.lst (ws0.map fun q => V.ref q.1))) l (stepsM (rs.map Prod.snd) es pl held) := fun i y kv hy hk => by
          obtain ⟨pl, held, q1, q2, q3, l, q4, q5, q6⟩ := gi5.st i y kv hy hk
          exact ⟨pl, held, q1, q2.tups t6, q3, l, q4, q5, q6.keep (upd_ne q5) t6⟩
        have gi6 : ∀ S : Unit, xs ≠ [] ∨ ws0 ≠ [] → GI P w H (upd H5 W (.lst (ws0.map fun q => V.ref q.1))) D W es (rs.map Prod.snd) ws0 kvs xs := fun _ so => ⟨gi6x, nd6, st6, w6, it6, gi5.nk, fun S hS => ⟨(gi5.cl S hS).1, fun q hq => (gi5.cl S hS).2 q (List.mem_append_left _ hq)⟩, so⟩
        generalize (upd H5 W (.lst (ws0.map fun q => V.ref q.1))) = H6 at gi6x w6 it6 st6 gi6 nd6 hx6 hord6 hev6 ⊢
        refine ⟨_, rfl, _, rfl, _, rfl, a, b, x, rs, es, pl, held, rfl, hord6, hev6, hx6, okx, by omega, by omega, good, nd, fun l H7 hl s7 hsteps => ?_⟩
        have hx7 := hx6.tups (Vf.Same.tups s7)
        have nd7 : NDx P w H7 D kvs xs := nd6.tups ((s7 _ _ nd6.at_).trans nd6.at_.symm) (Vf.Same.tups s7)
        refine ⟨_, rfl, _, rfl, D, x, kvs, stK pl held, xs, rfl, rfl, nd7, hx7.key, hv, (by rw [sizeLine_eq]; omega), fun u z nd8 => ?_⟩
        have hlW : l ≠ W := fun e => by
          rw [e, w6] at hl
          cases hl
        -- the walk with the new state
        have core : GI P w H (upd H7 D u) D W es (rs.map Prod.snd) ws0 (kvs ++ [(stK pl held, .ref l)]) (xs ++ [(stK pl held, x, z)]) := by
          rcases (show xs ≠ [] ∨ xs = [] from (Classical.em (xs = [])).symm) with hne | he
          · exact ((gi6 () (.inl hne)).same s7).put hD0 hx7 okx hlW hsteps hv clx nd8
          · rcases (show ws0 ≠ [] ∨ ws0 = [] from (Classical.em (ws0 = [])).symm) with hne | he2
            · exact ((gi6 () (.inr hne)).same s7).put hD0 hx7 okx hlW hsteps hv clx nd8
            · subst he he2
              have k0 : kvs = [] := by
                have := gi5.len
                rw [List.length_nil] at this
                exact List.length_eq_zero_iff.mp this
              subst k0
              have t8 : Tups H7 (upd H7 D u) := fun c ys e => by
                rw [upd_ne (ne_of e nd7.at_ fun q => ndo_ne q.symm)]
                exact e
              refine ⟨same_upd (gi6x.trans s7) hD0, nd8, fun i y kv hy hk => ?_, by rw [upd_ne gi5.dw.symm]; exact s7 _ _ w6, (fun q hq => nomatch hq), by simp, fun S hS => ⟨fun k hk => ?_, (fun q hq => nomatch hq)⟩, .inl (by simp)⟩
              · cases i with
                | zero =>
                  obtain rfl := Option.some.inj hy
                  obtain rfl := Option.some.inj hk
                  obtain ⟨qs, e1, _⟩ := id hsteps
                  exact ⟨pl, held, rfl, hx7.tups t8, okx, l, rfl, hlW, hsteps.keep (upd_ne (ne_of e1 nd7.at_ fun q => ndo_lst q.symm)) t8⟩
                | succ i => cases hy
              · rw [List.mem_singleton.mp hk]
                exact clx S hS
        have hsteps8 : StepsT (upd H7 D u) l (stepsM (rs.map Prod.snd) es pl held) := by
          obtain ⟨qs, q1, q2, q3⟩ := hsteps
          have t8 : Tups H7 (upd H7 D u) := fun c ys e => by
            rw [upd_ne (ne_of e nd7.at_ fun q => ndo_ne q.symm)]
            exact e
          exact ⟨qs, by rw [upd_ne (ne_of q1 nd7.at_ fun q => ndo_lst q.symm)]; exact q1, q2, fun q hq => (q3 q hq).tups t8⟩
        have val8 : valV (kvs ++ [(stK pl held, V.ref l)]) (stK pl held) = some (.ref l) := by
          rw [← putK_new _ hv, valV_put, if_pos rfl]
        have key8 := hx7.key.same (H' := upd H7 D u) fun c ys e => by
          rw [upd_ne (ne_of e nd7.at_ fun q => ndo_ne q.symm)]
          exact e
        generalize (upd H7 D u) = H8 at core hsteps8 nd8 key8 ⊢
        have lk8 : (kvs ++ [(stK pl held, V.ref l)]).length = kvs.length + 1 := by simp
        refine ⟨_, rfl, D, _, rfl, nd8.nd, _, rfl, _, _, rfl, rfl, _, rfl, ?_⟩
        rw [lk8]
        by_cases hbig : most < kvs.length + 1
        · rw [decide_eq_true (p := (most : Int) < ((kvs.length + 1 : Nat) : Int)) (by omega)]
          refine iteT (k2 (fun S hS => ?_) H8 core.b)
          have := nodup_le core.nk (core.cl S hS).1
          rw [List.length_map, lk8] at this
          omega
        · rw [decide_eq_false (p := (most : Int) < ((kvs.length + 1 : Nat) : Int)) (by omega)]
          refine iteF ?_
          obtain ⟨qs, q1, q2, q3⟩ := hsteps8
          have lqs : qs.length ≤ 400 := by
            have := steps_few good okx few
            rw [← q2, List.length_map] at this
            exact this
          have inK : ∀ {k : NK}, k ∈ (kvs ++ [(stK pl held, V.ref l)]).map Prod.fst ↔ k ∈ kvs.map Prod.fst ∨ k = stK pl held := fun {k} => by
            rw [List.map_append, List.mem_append]
            exact or_congr Iff.rfl List.mem_singleton
          have bg8 : k0G (rs.map Prod.snd) es ∈ (kvs ++ [(stK pl held, V.ref l)]).map Prod.fst ∨ k0G (rs.map Prod.snd) es ∈ ws0.map wkey := move (inK.mpr (.inr rfl)) (bg.imp (fun h => inK.mpr (.inl h)) id)
          have pr8 : Proc (rs.map Prod.snd) es ((kvs ++ [(stK pl held, V.ref l)]).map Prod.fst) (ws0.map wkey) (fun k s => k = stK pl held → s ∈ (qs.take 0).map Prod.snd) := fun pl' held' ok' h' s hs hc => by
            rcases inK.mp h' with h' | h'
            · exact move (inK.mpr (.inr rfl)) ((pr pl' held' ok' h' s hs trivial).imp (fun h => inK.mpr (.inl h)) id)
            · cases hc h'
          refine ⟨_, rfl, _, rfl, D, x, _, stK pl held, .ref l, rfl, rfl, nd8.nd, key8, val8, l, rfl, ⟨_, SqL.of q1⟩, for_it (walk_list (K := K) (a := l) (xs := qs.map fun q => V.ref q.1)) (fun i σ H' => ∃ (v7 : Option V) (ws : List Wt), σ = [some (.ref a), some (.ref b), some (.int (most : Int)), some (.ref g), some (.ref D), some (.ref W), some (.ref x), v7] ∧
              GI P w H H' D W es (rs.map Prod.snd) ws (kvs ++ [(stK pl held, .ref l)]) (xs ++ [(stK pl held, x, z)]) ∧ ws.length ≤ ws0.length + i ∧ But W H8 H' ∧ Proc (rs.map Prod.snd) es ((kvs ++ [(stK pl held, V.ref l)]).map Prod.fst) (ws.map wkey) (fun k s => k = stK pl held → s ∈ (qs.take i).map Prod.snd) ∧ (k0G (rs.map Prod.snd) es ∈ (kvs ++ [(stK pl held, V.ref l)]).map Prod.fst ∨ k0G (rs.map Prod.snd) es ∈ ws.map wkey))
            ⟨_, ws0, rfl, core, Nat.le_refl _, But.refl _ _, pr8, bg8⟩ (fun i σ H' _ ⟨_, _, _, _, _, b9, _⟩ => SqL.of (b9 _ _ hlW q1)) ?_ ?_⟩
          · rintro i y σ H9 H10 hi ⟨v7, ws, rfl, gi9, lws, b9, pr9, bg9⟩ ⟨rfl, hy⟩
            rw [List.length_map] at hi
            have hq : qs[i]? = some qs[i] := List.getElem?_eq_getElem hi
            generalize qs[i] = q at hq
            rw [List.getElem?_map, hq] at hy
            obtain rfl : V.ref q.1 = y := Option.some.inj hy
            have hqm := List.mem_of_getElem? hq
            obtain ⟨sb, h1, h2⟩ := (q3 q hqm).tups (Vf.But.tups b9 core.wt)
            have hsm : q.2 ∈ stepsM (rs.map Prod.snd) es pl held := q2 ▸ List.mem_map_of_mem hqm
            have ok2 := ok_step good okx hsm
            have tk : (qs.take (i + 1)).map Prod.snd = (qs.take i).map Prod.snd ++ [q.2] := by
              rw [List.take_add_one, hq, List.map_append]
              rfl
            have pr10 : ∀ wk : List NK, (∀ k, k ∈ ws.map wkey → k ∈ wk) → (stK q.2.2.2.2.1 q.2.2.2.2.2 ∈ (kvs ++ [(stK pl held, V.ref l)]).map Prod.fst ∨ stK q.2.2.2.2.1 q.2.2.2.2.2 ∈ wk) → Proc (rs.map Prod.snd) es ((kvs ++ [(stK pl held, V.ref l)]).map Prod.fst) wk (fun k s => k = stK pl held → s ∈ (qs.take (i + 1)).map Prod.snd) := fun wk sub hq2 pl' held' ok' h' s hs hc => by
              by_cases he : stK pl' held' = stK pl held
              · have := hc he
                rw [tk] at this
                rcases List.mem_append.mp this with h | h
                · exact (pr9 pl' held' ok' h' s hs fun _ => h).imp id (sub _)
                · rw [List.mem_singleton.mp h]
                  exact hq2
              · exact (pr9 pl' held' ok' h' s hs fun h => absurd h he).imp id (sub _)
            refine ⟨_, rfl, q.1, _, 3, .ref sb, rfl, rfl, SqT.of h1, rfl, _, rfl, D, sb, _, stK q.2.2.2.2.1 q.2.2.2.2.2, rfl, rfl, gi9.nd.nd, h2.key, _, rfl, ?_⟩
            rw [if_pos rfl]
            cases hv2 : valV (kvs ++ [(stK pl held, V.ref l)]) (stK q.2.2.2.2.1 q.2.2.2.2.2) with
            | some v =>
              have hkin : stK q.2.2.2.2.1 q.2.2.2.2.2 ∈ (kvs ++ [(stK pl held, V.ref l)]).map Prod.fst := by
                have := valV_any (kvs := kvs ++ [(stK pl held, V.ref l)]) (k := stK q.2.2.2.2.1 q.2.2.2.2.2)
                rw [hv2] at this
                obtain ⟨p, hp, e⟩ := List.any_eq_true.mp this
                exact (of_decide_eq_true e) ▸ List.mem_map_of_mem hp
              exact iteF ⟨_, ws, rfl, gi9, by omega, b9, pr10 _ (fun _ h => h) (.inl hkin), bg9⟩
            | none =>
              refine iteT ⟨_, rfl, .inl ⟨rfl, _, SqL.of gi9.wt⟩, _, rfl, q.1, _, 3, .ref sb, rfl, rfl, SqT.of h1, rfl, W, _, _, rfl, rfl, gi9.wt, by rw [List.length_map, sizeLine_eq]; rw [lw] at mx; omega, ?_⟩
              have e : (ws.map fun q => V.ref q.1) ++ [V.ref sb] = (ws ++ [((sb, q.2.2.2.2.1, q.2.2.2.2.2) : Wt)]).map fun q => V.ref q.1 := by rw [List.map_append]; rfl
              rw [e]
              refine ⟨_, _, rfl, gi9.setW hW0 (fun r hr => ?_) (fun S hS r hr => ?_) (.inl (by simp)), by rw [List.length_append, List.length_singleton]; omega, b9.put, pr10 _ (fun k h => by rw [List.map_append]; exact List.mem_append_left _ h) (.inr (by rw [List.map_append]; exact List.mem_append_right _ (List.mem_singleton.mpr rfl))), bg9.imp id fun h => by rw [List.map_append]; exact List.mem_append_left _ h⟩
              · rcases List.mem_append.mp hr with hr | hr
                · exact gi9.it r hr
                · rw [List.mem_singleton.mp hr]
                  exact ⟨h2, ok2⟩
              · rcases List.mem_append.mp hr with hr | hr
                · exact (gi9.cl S hS).2 r hr
                · rw [List.mem_singleton.mp hr]
                  exact hS.2 pl held okx (clx S hS) q.2 hsm
          · rintro σ H9 ⟨v7, ws, rfl, gi9, lws, b9, pr9, bg9⟩
            rw [List.length_map] at lws
            refine ⟨(most + 1 - (kvs.length + 1)) * 500 + ws.length, by rw [lw]; omega, _, _, ws, _, _, rfl, gi9, by rw [lk8]; omega, by rw [lk8], by rw [lw] at mx; omega, fun pl' held' ok' h' s hs _ => pr9 pl' held' ok' h' s hs fun e => (by
              obtain ⟨e1, e2⟩ := stK_inj e
              rw [List.length_map, List.take_length, q2, ← e1, ← e2]
              exact hs), bg9⟩
end
end Vf

set_option maxRecDepth 100000
set_option maxHeartbeats 8000000
namespace Vf
open PySem PySem.Spec PyProof.Rows L2
section
variable {P : Program} {w : World} {K : PySem.W.Frag} {mg : Str → Option Value} {base : Heap}
def sp_law_straight (K : PySem.W.Frag) : Sp := fun vs H Q _ => ∃ (p c : Addr) (cs : List (Str × Nat)) (most : Nat), vs = [.ref p, .ref c, .int (most : Int)] ∧ FeedAt H p ∧ H c = some (.dK (cellKv cs)) ∧ GoodCs cs ∧ 1 ≤ most ∧ most ≤ 8 ∧
  ∀ (t : Addr) (ns : List Nd) H', But p H H' → FeedAt H' p → H t = none → NodesAt H' t ns → Good ns → (∀ n ∈ ns, n.cell ∈ cs.map Prod.fst) → Q (.ref t) H'
theorem ok_law_straight {f : Addr} {fd : FuncData} (F : Fun K "_law_straight" "_law_straight" s_law_straight f fd) (T0 : Txt0 K mg) (GT : OkF P w K mg base CX0 "_law_take" p_law_take 1 sp_law_take) (GP : OkF P w K mg base CX0 "_law_pick" p_law_pick 2 (sp_law_pick K)) :
    FnOk P w K mg base CX0 3 f fd p_law_straight (sp_law_straight K) := by
  refine F.ok sc_law_straight (fun vs H Q E h => ?_) (fun cdv A outer s H vs Q E hr h => ?_)
  · obtain ⟨p, c, cs, most, rfl, _⟩ := h
    rfl
  · obtain ⟨p, c, cs, most, rfl, hp, hS, g, hm1, hm8, k⟩ := h
    have hr1 : Room 1 _ := hr.mono (by decide)
    have hpc : p ≠ c := by
      obtain ⟨x, y, g1, _⟩ := hp
      exact ne_of g1 hS (by intro z; cases z)
    refine ⟨_, pss_cons (ps_par (i := 3) (j := 4) rfl sc_law_straight.nd rfl rfl (by decide) rfl rfl (pa_cons (pe_op op_add pe_int (pe_fn GT hr1 rfl pass0 (pa_cons (pv 0) (pa_cons (pv 2) pa_nil)))) (pa_cons (pe_lst pa_nil) pa_nil)) (by rfl))
      (pss_cons (ps_for PassesOwn.never rfl (pi_range1 (by rfl) T0.range (pa_cons (pv 3) pa_nil)) (pg_name (i := 5) sc_law_straight.nd rfl (Or.inl rfl))
        (C8.pss_cut (ps_setLc (i := 6) (own := [("one", 8)]) (g := gName 8) rfl sc_law_straight.nd rfl rfl (sw_true rfl rfl rfl (by decide +kernel)) (pi_range2 (by rfl) T0.range (pa_cons (pe_op op_add (pv 5) pe_int) (pa_cons (pv 3) pa_nil))) (blkOk_by (N := n_law_straight) (sc := defScope s_law_straight) (by decide +kernel))
              (fun _ _ _ _ _ => pg_name (i := 8) sc_law_straight.nd rfl (Or.inl rfl)) (fun _ _ _ _ _ => pts_one (pt_cmpR op_eq (pe_fn GT hr1 rfl pass0 (pa_cons (pv 0) (pa_cons pe_int pa_nil))) pe_int (nomark _)))
              (fun _ _ _ _ _ => pv 8))
        (C8.pss_cut (ps_if (PW.pt (pw_or (pt_cmpR (op_eqD hr.units) (pv 6) (pe_lst pa_nil) (nomark _)) (pw_or1 (pt_cmpR op_eq (pe_fn GT hr1 rfl pass0 (pa_cons (pv 0) (pa_cons pe_int pa_nil))) pe_int (nomark _)))))
            (pss_one (ps_set (i := 6) sc_law_straight.nd rfl (Or.inl rfl) (pe_op op_cat (pv 6) (pe_lst (pa_cons pe_non pa_nil))))) pss_nil)
        (pss_cons (ps_set (i := 7) sc_law_straight.nd rfl (Or.inl rfl) (pe_fn GP hr rfl pass0 (pa_cons (pv 0) (pa_cons (pe_lst (pa_cons pe_str (pa_cons pe_str (pa_cons pe_str pa_nil)))) pa_nil))))
        (pss_one (ps_expr (pe_bm PySem.F.plainAttrs_list PySem.F.slot_list_append PySem.F.type_list_append mt_append (pv 4) (pa_cons
          (pe_tup (pa_cons (pv 7) (pa_cons (pe_fn GP hr rfl pass0 (pa_cons (pv 0) (pa_cons (pe_callTy (call_listD rfl) (by rfl) T0.list (by decide +kernel) (pa_cons (pv 1) pa_nil)) pa_nil))) (pa_cons (pe_callTy call_tuple_of (by rfl) T0.tuple (by decide +kernel) (pa_cons (pv 6) pa_nil)) pa_nil)))) pa_nil))))))))
      (pss_one (ps_ret (pe_callTy call_tuple_of (by rfl) T0.tuple (by decide +kernel) (pa_cons (pv 4) pa_nil))))), ?_⟩
    refine ⟨_, rfl, _, rfl, p, most, rfl, hp, hm1, by omega, fun m H1 hm b1 f1 => ⟨1, m, rfl, rfl, Nat.zero_le _, fun l hl => ⟨_, _, rfl, ?_⟩⟩⟩
    have hl0 := b1.free f1 hl
    have hpl : p ≠ l := hp.ne hl0
    have em : (1 + (m : Int)).toNat = 1 + m := by omega
    refine ⟨_, rfl, _, rfl, by omega, by omega, ?_⟩
    rw [em]
    refine for_it (walk_range (lo := 0) (n := 1 + m)) (fun i σ H' => ∃ (as : List Addr) (ns : List Nd) (v5 v6 v7 v8 : Option V), σ = [some (.ref p), some (.ref c), some (.int (most : Int)), some (.int (1 + (m : Int))), some (.ref l), v5, v6, v7, v8] ∧
        Mid3 H p l as ns H' ∧ ns.length = i ∧ ∀ n ∈ ns, GoodNd (1 + m) n ∧ n.cell ∈ cs.map Prod.fst)
      ⟨[], [], none, none, none, none, rfl, ⟨b1.new hl0, f1.put hpl, upd_same, rfl, fun i a n h => by simp at h⟩, rfl, fun n h => by cases h⟩ (fun _ _ _ _ _ => trivial) ?_ ?_
    · rintro i x σ H2 H3 hi ⟨as, ns, v5, v6, v7, v8, rfl, md, hns, hgood⟩ ⟨rfl, rfl⟩
      refine ⟨fun σ H' => ∃ (q : Addr) (ks : List Nat) (v7 v8 : Option V), σ = [some (.ref p), some (.ref c), some (.int (most : Int)), some (.int (1 + (m : Int))), some (.ref l), some (.int (0 + (i : Int))), some (.ref q), v7, v8] ∧
        Mid3 H p l as ns H' ∧ H' q = some (.lst (natV ks)) ∧ p ≠ q ∧ l ≠ q ∧ rises ks = true ∧ ∀ k ∈ ks, k < 1 + m, ?_, ?_⟩
      · refine ⟨_, rfl, _, _, rfl, rfl, _, rfl, _, _, rfl, ⟨by omega, by omega, by omega, by omega⟩, fun D hD => ?_⟩
        have hn : (1 + (m : Int) - (0 + (i : Int) + 1)).toNat = m - i := by omega
        rw [hn]
        have hpD : p ≠ D := md.f.ne hD
        have hlD : l ≠ D := ne_of_none md.l hD
        refine lc_it (walk_range (lo := 0 + (i : Int) + 1) (n := m - i)) (fun j H' => But p H3 H' ∧ FeedAt H' p ∧ ∃ ks : List Nat, H' D = some (.lst (natV ks)) ∧ rises ks = true ∧ ks.length ≤ j ∧ ∀ k ∈ ks, k < i + 1 + j)
          ⟨(But.refl p H3).new hD, md.f.put hpD, [], upd_same, rfl, Nat.le_refl _, fun k h => by cases h⟩ (fun _ _ _ _ => trivial) ?_ ?_
        · rintro j x H4 H5 hj ⟨b4, f4, ks, hks, hri, hlen, hlt⟩ ⟨rfl, rfl⟩
          refine ⟨rfl, _, rfl, p, 3, rfl, f4, by decide, by decide, fun r H6 hr6 b6 f6 => ⟨rfl, _, rfl, ?_⟩⟩
          have hks6 := b6 _ _ hpD.symm hks
          by_cases hr0 : r = 0
          · subst hr0
            refine iteT ⟨_, rfl, natV ks, hks6, ?_, (b4.trans b6).new hD, f6.put hpD, ks ++ [i + 1 + j], ?_, ?_, ?_, ?_⟩
            · unfold natV
              rw [List.length_map, sizeLine_eq]
              omega
            · rw [upd_same]
              show some (HO.lst (natV ks ++ [.int (0 + (i : Int) + 1 + (j : Int))])) = _
              have e : (0 + (i : Int) + 1 + (j : Int)) = ((i + 1 + j : Nat) : Int) := by omega
              rw [e]
              unfold natV
              rw [List.map_append]
              rfl
            · rw [rises_iff] at hri ⊢
              refine List.pairwise_append.mpr ⟨hri, List.pairwise_singleton _ _, fun a ha b hb => ?_⟩
              rw [List.mem_singleton.mp hb]
              exact hlt a ha
            · rw [List.length_append, List.length_singleton]
              omega
            · intro a ha
              rcases List.mem_append.mp ha with ha | ha
              · have := hlt a ha
                omega
              · rw [List.mem_singleton.mp ha]
                omega
          · rw [decide_eq_false (p := V.int (r : Int) = V.int 0) (fun e => hr0 (by have := V.int.inj e; omega))]
            exact iteF ⟨b4.trans b6, f6, ks, hks6, hri, by omega, fun a ha => by have := hlt a ha; omega⟩
        · rintro H4 ⟨b4, f4, ks, hks, hri, hlen, hlt⟩
          exact ⟨D, ks, v7, v8, rfl, md.but b4 f4 hpl, hks, hpD, hlD, hri, fun a ha => by have := hlt a ha; omega⟩
      rintro σ H5 ⟨q5, ks5, v75, v85, rfl, md5, hq5, hpq5, hlq5, hri5, hlt5⟩
      have hkl5 : ks5.length ≤ 8 := by
        have := rises_le hri5 hlt5
        omega
      refine ⟨fun σ H' => ∃ (q : Addr) (tg : List (Option Nat)) (v7 v8 : Option V), σ = [some (.ref p), some (.ref c), some (.int (most : Int)), some (.int (1 + (m : Int))), some (.ref l), some (.int (0 + (i : Int))), some (.ref q), v7, v8] ∧
        Mid3 H p l as ns H' ∧ H' q = some (.lst (tg.map tgV)) ∧ p ≠ q ∧ l ≠ q ∧ GoodTg (1 + m) tg, ?_, ?_⟩
      · refine ⟨_, rfl, Nat.zero_le _, fun o1 ho1 => ?_⟩
        have s6 := same_new (o := .lst []) ho1
        have md6 := md5.same s6 hpl
        have hq6 := s6 _ _ hq5
        refine ⟨.list ((ks5.map some).map tgD), .list (([] : List (Option Nat)).map tgD), .lst (SqL.of (by rw [hq6, natV_tg])) (dp_tg _), .lst (SqL.of upd_same) (dp_tg []), shaped_list_tg _, shaped_list_tg _, _, rfl, ?_⟩
        rw [eqv_list_tg]
        have addNone : ∀ H7, Mid3 H p l as ns H7 → H7 q5 = some (.lst (natV ks5)) → ∀ o1 o2, H7 o1 = none → (upd H7 o1 (.lst [.non])) o2 = none → Mid3 H p l as ns (upd (upd H7 o1 (.lst [.non])) o2 (.lst (natV ks5 ++ [.non]))) ∧
            (upd (upd H7 o1 (.lst [.non])) o2 (.lst (natV ks5 ++ [.non]))) o2 = some (.lst ((ks5.map some ++ [none]).map tgV)) ∧ p ≠ o2 ∧ l ≠ o2 ∧ GoodTg (1 + m) (ks5.map some ++ [none]) := by
          intro H7 md7 hq7 o1 o2 ho1 ho2
          have ho27 := Same.free (same_new (o := .lst [.non]) ho1) ho2
          refine ⟨md7.same ((same_new ho1).trans (same_new ho2)) hpl, by rw [upd_same, List.map_append, natV_tg]; rfl, md7.f.ne ho27, ne_of_none md7.l ho27, by simp, ks5, true, rfl, hri5, hlt5⟩
        by_cases hk0 : ks5.map some = []
        · rw [decide_eq_true hk0]
          refine iteT (iteT ⟨_, rfl, (by show 1 ≤ sizeLine; decide), fun o2 ho2 => ⟨q5, o2, natV ks5, [.non], rfl, rfl, by rw [upd_ne (ne_of_none hq6 ho2)]; exact hq6, upd_same, ?_, fun o3 ho3 => ?_⟩⟩)
          · unfold natV
            rw [List.length_map, sizeLine_eq]
            show ks5.length + 1 ≤ _
            omega
          · obtain ⟨m1, m2, m3, m4, m5⟩ := addNone _ md6 hq6 o2 o3 ho2 ho3
            exact ⟨o3, ks5.map some ++ [none], v75, v85, rfl, m1, m2, m3, m4, m5⟩
        · rw [decide_eq_false hk0]
          refine iteF ⟨_, rfl, p, 4, rfl, md6.f, by decide, by decide, fun r H7 hr7 b7 f7 => ⟨rfl, _, rfl, ?_⟩⟩
          have md7 := md6.but b7 f7 hpl
          have hq7 := b7 _ _ hpq5.symm hq6
          by_cases hr0 : r = 0
          · subst hr0
            refine iteT ⟨_, rfl, (by show 1 ≤ sizeLine; decide), fun o2 ho2 => ⟨q5, o2, natV ks5, [.non], rfl, rfl, by rw [upd_ne (ne_of_none hq7 ho2)]; exact hq7, upd_same, ?_, fun o3 ho3 => ?_⟩⟩
            · unfold natV
              rw [List.length_map, sizeLine_eq]
              show ks5.length + 1 ≤ _
              omega
            · obtain ⟨m1, m2, m3, m4, m5⟩ := addNone _ md7 hq7 o2 o3 ho2 ho3
              exact ⟨o3, ks5.map some ++ [none], v75, v85, rfl, m1, m2, m3, m4, m5⟩
          · rw [decide_eq_false (p := V.int (r : Int) = V.int 0) (fun e => hr0 (by have := V.int.inj e; omega))]
            exact iteF (⟨q5, ks5.map some, v75, v85, rfl, md7, by rw [hq7, natV_tg], hpq5, hlq5, hk0, ks5, false, by simp, hri5, hlt5⟩)
      rintro σ H6 ⟨q6, tg, v76, v86, rfl, md6, hq6, hpq6, hlq6, hgt⟩
      refine ⟨_, rfl, (by show 3 ≤ sizeLine; decide), fun o1 ho1 => ?_⟩
      have s7 := same_new (o := .lst [.str "read", .str "write", .str "write"]) ho1
      refine ⟨p, o1, _, rfl, md6.f.same s7, md6.f.ne ho1, SqL.of upd_same, by decide, by decide, fun r v H8 hv b8 f8 => ?_⟩
      have md8 := (md6.same s7 hpl).but b8 f8 hpl
      have hq8 := b8 _ _ hpq6.symm (s7 _ _ hq6)
      obtain ⟨wd, rfl, hwd⟩ : ∃ wd : Str, v = .str wd ∧ (wd = sRead ∨ wd = sWrite) := by
        match r, hv with
        | 0, e => exact ⟨sRead, (Option.some.inj e).symm, .inl rfl⟩
        | 1, e => exact ⟨sWrite, (Option.some.inj e).symm, .inr rfl⟩
        | 2, e => exact ⟨sWrite, (Option.some.inj e).symm, .inr rfl⟩
        | _ + 3, e => cases e
      refine ⟨_, rfl, .inl ⟨rfl, _, SqL.of md8.l⟩, _, rfl, _, rfl, _, rfl, c, _, rfl, .inl (md8.b _ _ hpc.symm hS), fun o2 ho2 => ?_⟩
      rw [cellKv_keys] at *
      have s9 := same_new (o := .lst ((cs.map Prod.fst).map V.str)) ho2
      refine ⟨p, o2, _, rfl, md8.f.same s9, md8.f.ne ho2, SqL.of upd_same, ?_, ?_, fun r2 v2 H9 hv2 b9 f9 => ?_⟩
      · rw [List.length_map, List.length_map]
        exact List.length_pos_iff.mpr g.some
      · rw [List.length_map, List.length_map]
        have := g.few
        omega
      have md9 := (md8.same s9 hpl).but b9 f9 hpl
      have hq9 := b9 _ _ hpq6.symm (s9 _ _ hq8)
      obtain ⟨z, rfl, hz⟩ : ∃ z : Str, v2 = .str z ∧ z ∈ cs.map Prod.fst := by
        rw [List.getElem?_map] at hv2
        cases e : (cs.map Prod.fst)[r2]? with
        | none => rw [e] at hv2; cases hv2
        | some z =>
          rw [e] at hv2
          exact ⟨z, (Option.some.inj hv2).symm, List.mem_of_getElem? e⟩
      have hnames : ∀ z ∈ cs.map Prod.fst, isNameT z = true := fun z hz => by
        obtain ⟨c, hc, rfl⟩ := List.mem_map.mp hz
        exact g.name c hc
      refine ⟨_, rfl, q6, _, rfl, .inl ⟨SqL.of hq9, fun t1 ht1 => ⟨(by show 3 ≤ sizeLine; decide), fun a ha => ?_⟩⟩⟩
      have s10 := (same_new (o := .tup (tg.map tgV)) ht1).trans (same_new (o := .tup [.str wd, .str z, .ref t1]) ha)
      have md10 := md9.same s10 hpl
      have hta : t1 ≠ a := fun e => by
        rw [← e, upd_same] at ha
        cases ha
      have hna : NodeAt (upd (upd H9 t1 (.tup (tg.map tgV))) a (.tup [.str wd, .str z, .ref t1])) a ⟨wd, z, tg⟩ := ⟨t1, upd_same, by rw [upd_ne hta, upd_same]⟩
      refine ⟨l, _, _, rfl, rfl, md10.l, ?_, ?_⟩
      · rw [List.length_map, md10.n.1, hns, sizeLine_eq]
        omega
      · refine ⟨as ++ [a], ns ++ [⟨wd, z, tg⟩], _, _, _, _, rfl, ⟨md10.b.new hl0, md10.f.put hpl, by rw [upd_same, List.map_append]; rfl, by rw [List.length_append, List.length_append, md10.n.1]; rfl, fun j b' n' hj hm' => ?_⟩, by rw [List.length_append, hns]; rfl, fun n' hn' => ?_⟩
        · have hbut : But l (upd (upd H9 t1 (.tup (tg.map tgV))) a (.tup [.str wd, .str z, .ref t1])) (upd (upd (upd H9 t1 (.tup (tg.map tgV))) a (.tup [.str wd, .str z, .ref t1])) l (.lst (as.map V.ref ++ [.ref a]))) := (But.refl _ _).put
          by_cases hj' : j < as.length
          · rw [List.getElem?_append_left hj'] at hj
            rw [List.getElem?_append_left (by rw [← md10.n.1]; exact hj')] at hm'
            exact (md10.n.2 j b' n' hj hm').but hbut ⟨_, md10.l⟩
          · have ej : j = as.length := by
              have := (List.getElem?_eq_some_iff.mp hj).1
              rw [List.length_append, List.length_singleton] at this
              omega
            subst ej
            rw [List.getElem?_append_right (Nat.le_refl _), Nat.sub_self] at hj
            rw [md10.n.1, List.getElem?_append_right (Nat.le_refl _), Nat.sub_self] at hm'
            obtain rfl : a = b' := by simpa using hj
            obtain rfl : (⟨wd, z, tg⟩ : Nd) = n' := by simpa using hm'
            exact hna.but hbut ⟨_, md10.l⟩
        · rcases List.mem_append.mp hn' with h | h
          · exact hgood n' h
          · rw [List.mem_singleton.mp h]
            exact ⟨⟨hwd, hnames z hz, hgt⟩, hz⟩
    · rintro σ H2 ⟨as, ns, v5, v6, v7, v8, rfl, md, hns, hgood⟩
      refine ⟨_, rfl, l, _, rfl, .inl ⟨SqL.of md.l, fun t ht => ?_⟩⟩
      have ht0 := md.b.free md.f ht
      refine k t ns _ (md.b.new ht0) (md.f.put (hp.ne ht0)) ht0 ⟨as, upd_same, md.n.same (same_new ht)⟩ ⟨by omega, fun e => ?_, ?_⟩ fun n hn => (hgood n hn).2
      · rw [e] at hns
        have : 0 = 1 + m := hns
        omega
      · rw [hns]
        exact fun n hn => (hgood n hn).1
end
end Vf

set_option maxRecDepth 100000
set_option maxHeartbeats 8000000
namespace Vf
open PySem PySem.Spec PyProof.Rows L2
theorem feed_neR {α : Type} {H : Hp} {p q : Addr} {l : List α} {f : α → Addr} (f1 : FeedAt H p) (h : H q = some (.lst (l.map fun x => V.ref (f x)))) : q ≠ p := fun z => by
  obtain ⟨a, b, g, _⟩ := f1
  rw [z, g] at h
  have e := HO.lst.inj (Option.some.inj h)
  cases l with
  | nil => cases e
  | cons x r => cases (List.cons.inj e).1
theorem FeedAt.tups {H H' : Hp} {p : Addr} (f : FeedAt H p) (b : But p H H') : Tups H H' := by
  obtain ⟨d, st, e, _⟩ := f
  exact Vf.But.tups b e
theorem rg_pick {n r : Nat} {v : V} (h : (rgV 0 (n : Int) ++ [V.non])[r]? = some v) : ∃ o : Option Nat, v = plV o ∧ ∀ i, o = some i → i < n := by
  have hl : (rgV 0 (n : Int)).length = n := by rw [rgV_length]; omega
  by_cases hr : r < n
  · rw [List.getElem?_append_left (by omega)] at h
    unfold rgV at h
    rw [List.getElem?_map, List.getElem?_range (by omega)] at h
    refine ⟨some r, ?_, fun i e => by rw [← Option.some.inj e]; exact hr⟩
    rw [← Option.some.inj h]
    show V.int (0 + (r : Int)) = V.int (r : Int)
    rw [Int.zero_add]
  · rw [List.getElem?_append_right (by omega)] at h
    refine ⟨none, ?_, fun i e => nomatch e⟩
    cases e : r - (rgV 0 (n : Int)).length with
    | zero =>
      rw [e] at h
      exact (Option.some.inj h).symm
    | succ k =>
      rw [e] at h
      cases h
theorem places_of : ∀ (qs : List (Addr × List Nd)) (xs : List V), xs.length = qs.length → (∀ (i : Nat) (q : Addr × List Nd) (v : V), qs[i]? = some q → xs[i]? = some v → ∃ o : Option Nat, v = plV o ∧ ∀ i, o = some i → i < q.2.length) →
    ∃ pl : List (Option Nat), xs = pl.map plV ∧ pl.length = qs.length ∧ ∀ (th i : Nat) (q : Addr × List Nd), pl[th]? = some (some i) → qs[th]? = some q → i < q.2.length
  | [], [], _, _ => ⟨[], rfl, rfl, fun th i q h _ => by simp at h⟩
  | [], _ :: _, h, _ => by simp at h
  | _ :: _, [], h, _ => by simp at h
  | q :: qs, v :: xs, h, hp => by
    obtain ⟨o, rfl, ho⟩ := hp 0 q v rfl rfl
    obtain ⟨pl, e1, e2, e3⟩ := places_of qs xs (by simpa using h) fun i a u h1 h2 => hp (i + 1) a u (by simpa using h1) (by simpa using h2)
    refine ⟨o :: pl, by rw [e1]; rfl, by rw [List.length_cons, e2, List.length_cons], fun th i q' h1 h2 => ?_⟩
    cases th with
    | zero =>
      obtain rfl : q = q' := Option.some.inj h2
      exact ho i (Option.some.inj h1)
    | succ th => exact e3 th i q' (by simpa using h1) (by simpa using h2)
end Vf

set_option maxRecDepth 100000
set_option maxHeartbeats 8000000
namespace Vf
open PySem PySem.Spec PyProof.Rows L2
/-- an expression's outcomes, told together -/
def tCutE (te : TE) : TE := fun σ H Q => ∃ R : VK, te σ H R ∧ ∀ v H', R v H' → Q v H'
theorem pe_cut {X : Cx} {e : Expr} {te : TE} (h : PE X e te) : PE X e (tCutE te) := ⟨fun pins s σ H Q I ⟨R, h1, h2⟩ => thn (h.run pins s σ H R I h1) fun v s1 ⟨x, H1, I1, r, q⟩ => ⟨x, H1, I1, r, h2 x H1 q⟩⟩
theorem closed_one (ls : List (List Str)) (z w : Str) : Closed ls [[⟨w, z, [none]⟩]] [stK [some 0] (ls.map fun _ => ([], false)), stK [none] (touch (ls.map fun _ => ([], false)) 0 (lineNo ls z) (wrN ⟨w, z, [none]⟩)).2] := by
  refine ⟨List.mem_cons_self, fun pl held _ hm s hs => ?_⟩
  rcases List.mem_cons.mp hm with h | h
  · obtain ⟨rfl, rfl⟩ := stK_inj h
    have e : stepsM ls [[⟨w, z, [none]⟩]] [some 0] (ls.map fun _ => ([], false)) = [(0, none, (touch (ls.map fun _ => ([], false)) 0 (lineNo ls z) (wrN ⟨w, z, [none]⟩)).1, [none], (touch (ls.map fun _ => ([], false)) 0 (lineNo ls z) (wrN ⟨w, z, [none]⟩)).2)] := rfl
    rw [e] at hs
    rw [List.mem_singleton.mp hs]
    exact List.mem_cons_of_mem _ List.mem_cons_self
  · obtain ⟨rfl, rfl⟩ := stK_inj (List.mem_singleton.mp h)
    have e : ∀ hd, stepsM ls [[⟨w, z, [none]⟩]] [none] hd = [] := fun _ => rfl
    rw [e] at hs
    cases hs
theorem linesOf_perm {ps : List (Addr × List Str)} {cs : List (Str × Nat)} (perm : (ps.flatMap Prod.snd).Perm (cs.map Prod.fst)) : (linesOf ps).flatten.Perm (cs.map Prod.fst) := by
  have p1 : (linesOf ps).flatten.Perm (ps.map fun p => srt p.2).flatten := (sortL_perm _).flatten
  have p2 : ∀ ps : List (Addr × List Str), (ps.map fun p => srt p.2).flatten.Perm (ps.flatMap Prod.snd) := fun ps => by
    induction ps with
    | nil => exact .nil
    | cons a r ih =>
      rw [List.map_cons, List.flatten_cons, List.flatMap_cons]
      exact (srt_perm a.2).append ih
  exact (p1.trans (p2 ps)).trans perm
/-- what a case holds -/
structure CaseAt (P : Program) (w : World) (H : Hp) (t d l o e g : Addr) (cs : List (Str × Nat)) (r : Nat) (ps rs : List (Addr × List Str)) (es : List (List Nd)) (most : Nat) : Prop where
  t : ∃ u, H t = some (.lst [.ref u, .ref o, .ref e, .ref g]) ∧ H u = some (.lst [.ref d, .int (r : Int), .ref l])
  d : H d = some (.dK (cellKv cs))
  good : GoodCs cs
  r1 : 1 ≤ r
  r32 : r ≤ 32
  il : InLines H l cs r ps
  ord : OrdAt H o rs
  lin : rs.map Prod.snd = linesOf ps
  ev : EvAt H e es
  few : es.length ≤ 3
  pos : 1 ≤ es.length
  nod : GoodEs es (rs.map Prod.snd)
  gr : ∃ kvs xs, GraphAt P w H g es (rs.map Prod.snd) kvs xs ∧ xs ≠ [] ∧ xs.length ≤ most
theorem GraphAt.but {P : Program} {w : World} {H H' : Hp} {a p : Addr} {es : List (List Nd)} {ls : List (List Str)} {kvs : List (NK × V)} {xs : List (NK × Addr × Value)} (g : GraphAt P w H a es ls kvs xs) (f : FeedAt H p) (b : But p H H') : GraphAt P w H' a es ls kvs xs := by
  have hne : a ≠ p := by
    obtain ⟨x, y, g1, _⟩ := f
    exact ne_of g.nd.at_ g1 ndo_lst
  refine ⟨g.nd.tups ((b _ _ hne g.nd.at_).trans g.nd.at_.symm) (FeedAt.tups f b), fun i x kv hx hk => ?_, g.cl, g.mn, g.nk⟩
  obtain ⟨pl, held, h1, h2, h3, l, h4, h5⟩ := g.st i x kv hx hk
  obtain ⟨qs, e1, _⟩ := id h5
  exact ⟨pl, held, h1, h2.tups (FeedAt.tups f b), h3, l, h4, h5.keep ((b _ _ (feed_neR f e1) e1).trans e1.symm) (FeedAt.tups f b)⟩
theorem GraphAt.same {P : Program} {w : World} {H H' : Hp} {a : Addr} {es : List (List Nd)} {ls : List (List Str)} {kvs : List (NK × V)} {xs : List (NK × Addr × Value)} (g : GraphAt P w H a es ls kvs xs) (s : Same H H') : GraphAt P w H' a es ls kvs xs := by
  refine ⟨g.nd.tups ((s _ _ g.nd.at_).trans g.nd.at_.symm) (Vf.Same.tups s), fun i x kv hx hk => ?_, g.cl, g.mn, g.nk⟩
  obtain ⟨pl, held, h1, h2, h3, l, h4, h5⟩ := g.st i x kv hx hk
  obtain ⟨qs, e1, _⟩ := id h5
  exact ⟨pl, held, h1, h2.tups (Vf.Same.tups s), h3, l, h4, h5.keep ((s _ _ e1).trans e1.symm) (Vf.Same.tups s)⟩
theorem NodesAt.tups {H H' : Hp} {t : Addr} {ns : List Nd} (h : NodesAt H t ns) (s : Tups H H') : NodesAt H' t ns := by
  obtain ⟨as, h1, h2, h3⟩ := h
  exact ⟨as, s _ _ h1, h2, fun i a n e1 e2 => let ⟨t', g1, g2⟩ := h3 i a n e1 e2; ⟨t', s _ _ g1, s _ _ g2⟩⟩
theorem EvAt.but {p : Addr} {H H' : Hp} {e : Addr} {es : List (List Nd)} (h : EvAt H e es) (f : FeedAt H p) (b : But p H H') : EvAt H' e es := by
  obtain ⟨qs, h1, h2, h3⟩ := h
  exact ⟨qs, b _ _ (feed_neR f h1) h1, h2, fun q hq => NodesAt.tups (h3 q hq) (FeedAt.tups f b)⟩
theorem OrdAt.but {p : Addr} {H H' : Hp} {o : Addr} {rs : List (Addr × List Str)} (h : OrdAt H o rs) (f : FeedAt H p) (b : But p H H') : OrdAt H' o rs := ⟨b _ _ (feed_neR f h.1) h.1, fun q hq => FeedAt.tups f b _ _ (h.2 q hq)⟩
theorem InLines.but {p : Addr} {H H' : Hp} {l : Addr} {cs : List (Str × Nat)} {r : Nat} {ps : List (Addr × List Str)} (h : InLines H l cs r ps) (f : FeedAt H p) (b : But p H H') : InLines H' l cs r ps :=
  ⟨b _ _ (feed_neR f h.at_) h.at_, fun q hq => ⟨b _ _ (feed_ne f (h.each q hq).1 (h.each q hq).2.1) (h.each q hq).1, (h.each q hq).2⟩, h.perm⟩
theorem feed_neD {H : Hp} {p d : Addr} {kvs : List (Key × V)} (f : FeedAt H p) (h : H d = some (.dK kvs)) : d ≠ p := by
  obtain ⟨x, y, g1, _⟩ := f
  exact (ne_of g1 h (by intro z; cases z)).symm
theorem feed_ne4 {H : Hp} {p t a : Addr} {xs : List V} (f : FeedAt H p) (h : H t = some (.lst (.ref a :: xs))) : t ≠ p := fun z => by
  obtain ⟨x, y, g1, _⟩ := f
  rw [z, g1] at h
  cases (List.cons.inj (HO.lst.inj (Option.some.inj h))).1
theorem CaseAt.but {P : Program} {w : World} {H H' : Hp} {p t d l o e g : Addr} {cs : List (Str × Nat)} {r : Nat} {ps rs : List (Addr × List Str)} {es : List (List Nd)} {most : Nat} (c : CaseAt P w H t d l o e g cs r ps rs es most) (f : FeedAt H p) (b : But p H H') : CaseAt P w H' t d l o e g cs r ps rs es most := by
  obtain ⟨⟨u, t1, t2⟩, d1, good, r1, r32, il, ord, lin, ev, few, pos, nod, ⟨kvs, xs, gr, ne, le⟩⟩ := c
  refine ⟨⟨u, b _ _ (feed_ne4 f t1) t1, b _ _ (feed_ne4 f t2) t2⟩, b _ _ (feed_neD f d1) d1, good, r1, r32, Vf.InLines.but il f b, Vf.OrdAt.but ord f b, lin, Vf.EvAt.but ev f b, few, pos, nod, ⟨kvs, xs, gr.but f b, ne, le⟩⟩
end Vf

set_option maxRecDepth 100000
set_option maxHeartbeats 4000000
namespace Vf
open PySem PySem.Spec PyProof.Rows L2
/-- such a key in the heap, or in the written part -/
inductive KeyW (K : PySem.W.Frag) (H : Hp) : V → NK → Prop
  | non : KeyW K H .non .none
  | int (i : Int) : KeyW K H (.int i) (.num i)
  | bl (b : Bool) : KeyW K H (.bl b) (.num (if b = true then 1 else 0))
  | str (x : Str) : KeyW K H (.str x) (.text x)
  | tup {a : Addr} {xs : List V} {ks : List NK} : SqT K H a xs → xs.length = ks.length → (∀ (i : Nat) (x : V) (k : NK), xs[i]? = some x → ks[i]? = some k → KeyW K H x k) → KeyW K H (.ref a) (.tup ks)
/-- all tuples stay -/
def TupsW (K : PySem.W.Frag) (H H' : Hp) : Prop := ∀ c ys, SqT K H c ys → SqT K H' c ys
theorem KeyW.same {K : PySem.W.Frag} {H H' : Hp} (s : TupsW K H H') {v : V} {k : NK} (h : KeyW K H v k) : KeyW K H' v k := by
  induction h with
  | non => exact .non
  | int i => exact .int i
  | bl b => exact .bl b
  | str x => exact .str x
  | tup e l _ ih => exact .tup (s _ _ e) l ih
structure NestW (K : PySem.W.Frag) (H : Hp) (b : Addr) (k : NK) : Prop where
  key : KeyW K H (.ref b) k
  low : k.depth ≤ 8
theorem NestW.same {K : PySem.W.Frag} {H H' : Hp} {b : Addr} {k : NK} (h : NestW K H b k) (s : TupsW K H H') : NestW K H' b k := ⟨h.key.same s, h.low⟩
theorem KeyW.is {X : Cx} {pins : List (Addr × Obj)} {σ : L2.St} {H : Hp} {s : Shared} (I : Inv X pins σ H s) {v : V} {k : NK} (x : KeyW X.K H v k) : ∀ u, RelV v u → NestedIs s.heap k u := by
  induction x with
  | non =>
    intro u r
    cases r
    exact .none
  | int i =>
    intro u r
    obtain ⟨t, rfl⟩ := r
    exact .int i t
  | bl b =>
    intro u r
    cases r
    exact .bool rfl
  | str x =>
    intro u r
    obtain ⟨t, rfl⟩ := r
    exact .text x t
  | @tup a xs ks e l _ ih =>
    intro u r
    cases r
    obtain ⟨its, rv, ⟨o, ho, hc, n, hd⟩, _⟩ := I.tuple e
    exact .tup ho hc hd (nested_all rv l ih)
theorem NestW.is {X : Cx} {pins : List (Addr × Obj)} {σ : L2.St} {H : Hp} {s : Shared} (I : Inv X pins σ H s) {b : Addr} {k : NK} (x : NestW X.K H b k) : (nk X.prog X.w).is s.heap k b := ⟨x.key.is I _ rfl, x.low⟩
abbrev KW (K : PySem.W.Frag) (H : Hp) : List (NK × V) → List (NK × Addr × Value) → Prop := Paired fun p q => p.1 = q.1 ∧ NestW K H q.2.1 p.1 ∧ RelV p.2 q.2.2
theorem KW.val {K : PySem.W.Frag} {H : Hp} {kvs : List (NK × V)} {xs : List (NK × Addr × Value)} (r : KW K H kvs xs) (k : NK) : RelO (valV kvs k) ((atKey xs k).map (·.2)) := by
  induction r with
  | nil => exact True.intro
  | @cons p q ps qs h t ih =>
    obtain ⟨h1, _, h2⟩ := h
    by_cases e : p.1 = k
    · have b : atKey (q :: qs) k = some q.2 := by simp [atKey, List.find?_cons, h1.symm.trans e]
      rw [valV_pos e, b]
      exact h2
    · have b : atKey (q :: qs) k = atKey qs k := by
        have e' : ¬ q.1 = k := fun z => e (h1.trans z)
        simp [atKey, List.find?_cons, e']
      rw [valV_neg e, b]
      exact ih
theorem KW.keeps {K : PySem.W.Frag} {H H' : Hp} {kvs : List (NK × V)} {xs : List (NK × Addr × Value)} (r : KW K H kvs xs) (s : TupsW K H H') : KW K H' kvs xs := Paired.mapP r fun _ _ z => ⟨z.1, z.2.1.same s, z.2.2⟩
theorem KW.is {X : Cx} {pins : List (Addr × Obj)} {σ : L2.St} {H : Hp} {s : Shared} (I : Inv X pins σ H s) : ∀ {kvs : List (NK × V)} {xs : List (NK × Addr × Value)}, KW X.K H kvs xs → ∀ x ∈ xs, (nk X.prog X.w).is s.heap x.1 x.2.1
  | _, _, .nil => fun x hx => nomatch hx
  | _, _, .cons hq t => fun x hx => by
    rcases List.mem_cons.mp hx with rfl | hx
    · exact NestW.is I (hq.1 ▸ hq.2.1)
    · exact KW.is I t x hx
theorem keys_kw {K : PySem.W.Frag} {H : Hp} : ∀ {kvs : List (NK × V)} {xs : List (NK × Addr × Value)}, KW K H kvs xs → kvs.map Prod.fst = xs.map (·.1)
  | _, _, .nil => rfl
  | _, _, .cons h t => by
    rw [List.map_cons, List.map_cons, h.1, keys_kw t]
/-- the dict at a, its keys at their addresses -/
structure NDw (P : Program) (w : World) (K : PySem.W.Frag) (H : Hp) (a : Addr) (kvs : List (NK × V)) (xs : List (NK × Addr × Value)) : Prop where
  fits : kvs.length ≤ sizeLine
  nosys : (a == sysModules) = false
  at_ : H a = some (NDo P w a xs)
  rel : KW K H kvs xs
theorem NDw.tups {P : Program} {w : World} {K : PySem.W.Frag} {H H' : Hp} {a : Addr} {kvs : List (NK × V)} {xs : List (NK × Addr × Value)} (d : NDw P w K H a kvs xs) (h : H' a = H a) (s : TupsW K H H') : NDw P w K H' a kvs xs := ⟨d.fits, d.nosys, h.trans d.at_, d.rel.keeps s⟩
theorem NDw.of {X : Cx} {pins : List (Addr × Obj)} {σ : L2.St} {H : Hp} {s : Shared} (I : Inv X pins σ H s) {a : Addr} {kvs : List (NK × V)} {xs : List (NK × Addr × Value)} (d : NDw X.prog X.w X.K H a kvs xs) : s.heap.DictOfH (nk X.prog X.w) a xs := by
  obtain ⟨⟨o, es, ep, g1, g2, g3, g4, g5⟩, _, _⟩ := (show ObjOk X.prog X.w H s.heap a (NDo X.prog X.w a xs) from I.hok a _ d.at_)
  exact ⟨o, es, ep, g1, g2, g3, g4, KW.is I d.rel, g5⟩
section
variable {X : Cx}
def rInW (P : Program) (w : World) (K : PySem.W.Frag) (neg : Bool) : R2 := fun x y H Q => ∃ a b kvs k xs, x = .ref b ∧ y = .ref a ∧ NDw P w K H a kvs xs ∧ NestW K H b k ∧ Q (.bl (if neg then !(valV kvs k).isSome else (valV kvs k).isSome)) H
theorem op_inW (hu : X.A.units + 16 < cLine) : OpR X (compareOp .In) (rInW X.prog X.w X.K false) := by
  intro pins s σ H x y v u Q I rx ry h
  obtain ⟨a, b, kvs, k, xs, rfl, rfl, d, hk, q⟩ := h
  cases rx
  cases ry
  refine wpAny_in_heap (knd := nk X.prog X.w) (by show X.A.units + 1 + 8 < cLine; omega) (hk.is I) d.nosys (d.of I) ?_
  have e := (KW.val d.rel k).isSome_eq
  rw [Option.isSome_map] at e
  rw [← e]
  exact ⟨.bl _, H, I.tok _, rfl, q⟩
theorem op_notInW (hu : X.A.units + 16 < cLine) : OpR X (compareOp .NotIn) (rInW X.prog X.w X.K true) := by
  intro pins s σ H x y v u Q I rx ry h
  obtain ⟨a, b, kvs, k, xs, rfl, rfl, d, hk, q⟩ := h
  cases rx
  cases ry
  refine wpAny_notIn_heap (knd := nk X.prog X.w) (by show X.A.units + 1 + 8 < cLine; omega) (hk.is I) d.nosys (d.of I) ?_
  have e := (KW.val d.rel k).isSome_eq
  rw [Option.isSome_map] at e
  rw [← e]
  exact ⟨.bl _, H, I.tok _, rfl, q⟩
/-- d[k] -/
def rIxW (P : Program) (w : World) (K : PySem.W.Frag) : R2 := fun x y H Q => ∃ a b kvs k xs v, x = .ref a ∧ y = .ref b ∧ NDw P w K H a kvs xs ∧ NestW K H b k ∧ valV kvs k = some v ∧ Q v H
theorem pe_dgetW {o i : Expr} {pos : Pos} {td ty : TE} (hu : X.A.units + 16 < cLine) (ho : PE X o td) (hi : PE X i ty) (hs : NoSl i) : PE X (.Subscript o i pos) (tOp (rIxW X.prog X.w X.K) td ty) := by
  refine ⟨fun pins s σ H Q I h => ?_⟩
  refine subD_of PySem.F.slot_dict_getitem.lookup hs (thn (ho.run pins s σ H _ I h) fun u s1 ⟨x, H1, I1, rx, q1⟩ => thn (hi.run pins s1 σ H1 _ I1 q1) fun iv s2 ⟨y, H2, I2, ry, a, b, kvs, k, xs, z, ex, ey, d, hk, l, q2⟩ => ?_)
  subst ex ey
  obtain rfl : u = Value.ref a := rx
  obtain rfl : iv = Value.ref b := ry
  have dd := d.of I2
  obtain ⟨w', hw, rw'⟩ := RelO.some_of (v := z) (o := (atKey xs k).map (·.2)) (by rw [← l]; exact KW.val d.rel k)
  obtain ⟨p, hp, hp2⟩ := Option.map_eq_some_iff.mp hw
  refine ⟨dd.typeIs, wpAny_getItem_heap (knd := nk X.prog X.w) (by show X.A.units + 1 + 8 < cLine; omega) (hk.is I2) dd hp ?_⟩
  rw [hp2]
  exact ⟨z, H2, I2.tok _, rw', q2⟩
theorem kw_new {K : PySem.W.Frag} {H : Hp} {kvs : List (NK × V)} {xs : List (NK × Addr × Value)} (r : KW K H kvs xs) {k : NK} (hno : valV kvs k = none) : atKey xs k = none := by
  have e := (KW.val r k).isSome_eq
  rw [hno, Option.isSome_map] at e
  cases h : atKey xs k with
  | none => rfl
  | some z =>
    rw [h] at e
    cases e
/-- d[k] = v, a new key -/
def rSetNewW (P : Program) (w : World) (K : PySem.W.Frag) : V → V → V → Hp → (Hp → Prop) → Prop := fun o i v H Q => ∃ a b kvs k xs, o = .ref a ∧ i = .ref b ∧ NDw P w K H a kvs xs ∧ NestW K H b k ∧ valV kvs k = none ∧ kvs.length < sizeLine ∧
  ∀ u z, NDw P w K (upd H a u) a (kvs ++ [(k, v)]) (xs ++ [(k, b, z)]) → Q (upd H a u)
theorem tupsW_ndo {P : Program} {w : World} {K : PySem.W.Frag} {H : Hp} {a : Addr} {xs : List (NK × Addr × Value)} {o : HO} (e : H a = some (NDo P w a xs)) : TupsW K H (upd H a o) := fun c ys h => by
  have no : ∀ u, H c = some u → u ≠ NDo P w a xs → (upd H a o) c = some u := fun u hu hn => by
    rw [upd_ne (ne_of hu e hn)]
    exact hu
  rcases h with (h | ⟨q, h⟩) | h
  · exact .inl (.inl (no _ h (fun z => ndo_ne z.symm)))
  · exact .inl (.inr ⟨q, no _ h (fun z => by unfold NDo at z; cases z)⟩)
  · exact .inr h
theorem set_nestNewW (hu : X.A.units + 16 < cLine) : PSet X (rSetNewW X.prog X.w X.K) := by
  intro pins s σ H o i v ov iv u Q I ro ri rv h
  obtain ⟨a, b, kvs, k, xs, rfl, rfl, d, hk, hno, lt, q⟩ := h
  cases ro
  cases ri
  have dd := d.of I
  have ea := d.at_
  have hz : xs.length ≤ sizeLine := by
    rw [← Paired.length d.rel]
    exact d.fits
  have hn := kw_new d.rel hno
  refine wpAny_setItem_heap (knd := nk X.prog X.w) (hsz := hz) (by show X.A.units + 1 + 8 < cLine; omega) (hk.is I) dd fun h' dd' hs => ?_
  rw [storedH_new hn] at dd'
  have st : TupsW X.K H (upd H a (NDo X.prog X.w a (xs ++ [(k, b, u)]))) := tupsW_ndo ea
  have he : ∃ q, h'.get? a = some q := let ⟨q, _, _, hq, _⟩ := dd'; ⟨q, hq⟩
  have rel : KW X.K H (kvs ++ [(k, v)]) (xs ++ [(k, b, u)]) := Paired.snoc d.rel ⟨rfl, hk, rv⟩
  exact ⟨_, d_write I (by rw [ea]; exact True.intro) hs he (ndo_ok dd'), q _ u ⟨by rw [List.length_append]; exact lt, d.nosys, upd_same, rel.keeps st⟩⟩
/-- {k: v}; the new dict stands empty while the pair is made -/
def tDisp1W (P : Program) (w : World) (K : PySem.W.Frag) (tk tv : TE) : TE := fun σ H Q => ∀ p, H p = none → tk σ (upd H p (NDo P w p [])) fun x H1 => tv σ H1 fun y H2 =>
  ∃ b k, x = .ref b ∧ NestW K H2 b k ∧ H2 p = some (NDo P w p []) ∧ ∀ u z, NDw P w K (upd H2 p u) p [(k, y)] [(k, b, z)] → Q (.ref p) (upd H2 p u)
theorem pe_disp1W {ke ve : Expr} {pos : Pos} {tk tv : TE} (hu : X.A.units + 16 < cLine) (hk : PE X ke tk) (hv : PE X ve tv) : PE X (.Dict [some ke] [ve] pos) (tDisp1W X.prog X.w X.K tk tv) := by
  refine ⟨fun pins s σ H Q I h => ?_⟩
  have hn := I.hok.fresh (Nat.le_refl s.heap.objs.size)
  have nos : (s.heap.objs.size == sysModules) = false := beq_eq_false_iff_ne.mpr (Ne.symm (Nat.ne_of_lt I.big))
  have d0 : (s.heap.push { cls := .type "dict", data := .dict #[] }).DictOfH (nk X.prog X.w) s.heap.objs.size [] := ⟨_, #[], 0, Heap.get?_push_size _ rfl, ⟨rfl, rfl, rfl⟩, rfl, rfl, fun x hx => (nomatch hx), List.nodup_nil⟩
  have I1 := I.laid (a := s.heap.objs.size) (o := NDo X.prog X.w s.heap.objs.size []) (t' := s.toks) (h' := s.heap.push { cls := .type "dict", data := .dict #[] }) (fun _ _ q => Heap.get?_push_of_some _ q) (Nat.le_refl _) (ndo_ok d0)
  have run := (pps_cons (pos := pos) hk hv pps_nil).run pins _ σ _ (fun ps H2 => match ps with | [(x, y)] => ∃ b k, x = V.ref b ∧ NestW X.K H2 b k ∧ H2 s.heap.objs.size = some (NDo X.prog X.w s.heap.objs.size []) ∧ ∀ u z, NDw X.prog X.w X.K (upd H2 s.heap.objs.size u) s.heap.objs.size [(k, y)] [(k, b, z)] → Q (.ref s.heap.objs.size) (upd H2 s.heap.objs.size u) | _ => False) I1 (h _ hn)
  rw [arm_eval_Dict, zip_pairTrees [some ke] [ve] X.env pos rfl rfl, dictDisplay_pairs (pairTrees [some ke] [ve] X.env pos) (by simp [pairTrees]) (by simp [pairTrees])]
  refine wpAny_bind (wpAny_standAt (wpAny_bind (wpAny_subDictH (knd := nk X.prog X.w) (by show X.A.units + 8 < cLine; omega) (by simp [pairTrees]) (thn run fun ws s2 ⟨ps, H2, I2, rel, qq⟩ => ?_))))
  match ps, qq, rel with
  | [(x, y)], ⟨b, k, ex, hkk, e2, q⟩, .cons (b := (u1, u2)) r1 .nil =>
    subst ex
    obtain ⟨rx, ry⟩ := r1
    obtain rfl : u1 = Value.ref b := rx
    have emp : NDw X.prog X.w X.K H2 s.heap.objs.size [] [] := ⟨Nat.zero_le _, nos, e2, .nil⟩
    refine ⟨[(k, b, u2)], ⟨rfl, rfl, hkk.is I2, trivial⟩, emp.of I2, fun h' tk dd' hs => ?_⟩
    have he : ∃ q, h'.get? s.heap.objs.size = some q := let ⟨q, _, _, hq, _⟩ := dd'; ⟨q, hq⟩
    have st : TupsW X.K H2 (upd H2 s.heap.objs.size (NDo X.prog X.w s.heap.objs.size (storedAllH [] [(k, b, u2)]))) := tupsW_ndo e2
    exact wpAny_pure ⟨.ref s.heap.objs.size, _, d_write I2 (by rw [e2]; exact True.intro) hs he (ndo_ok dd'), rfl, q _ u2 ⟨by show 1 ≤ sizeLine; decide, nos, upd_same, .cons ⟨rfl, hkk.same st, ry⟩ .nil⟩⟩
/-- told of its context -/
theorem pe_disp1WK {P : Program} {w : World} {K : PySem.W.Frag} {ke ve : Expr} {pos : Pos} {tk tv : TE} (hP : X.prog = P) (hw : X.w = w) (hK : X.K = K) (hu : X.A.units + 16 < cLine) (hk : PE X ke tk) (hv : PE X ve tv) : PE X (.Dict [some ke] [ve] pos) (tDisp1W P w K tk tv) := by
  subst hP hw hK
  exact pe_disp1W hu hk hv
end
end Vf

set_option maxRecDepth 100000
set_option maxHeartbeats 4000000
namespace Vf
open PySem PySem.Spec PyProof.Rows L2 NdefX
section
variable {CX : CXT} {P : Program} {w : World} {K : PySem.W.Frag} {mg : Str → Option Value} {base : Heap} {N ps : List Str} {F : NF} {f C c0 : Addr} {k : Nat} {sp : Sp}
theorem cell_at {H : Hp} {s : Shared} {A : Around} {outer : List Env} (e0 : Env0 P w K mg base A outer s H) (hcl : F.cl = [(("__class__" : Str), c0)]) (has : ∃ o, K.lookup c0 = some o) (cell : ∀ h : Heap, K.In h → h.IsCell c0 (some (.ref C))) :
    CellsAt F.cl ["__class__"] [some (.ref C)] s.heap H := by
  have kin := e0.mod.kin.keeps fun b o e => (e0.bs b o e).1
  obtain ⟨o, ho⟩ := has
  have away : H c0 = none := (e0.bs _ _ (e0.mod.kin _ _ ho)).2
  rw [hcl]
  refine ⟨rfl, fun y c hy => ?_, fun x y c hx hy => ?_, fun i y hi => ?_⟩
  · rw [List.lookup_cons] at hy
    split at hy
    · obtain rfl := Option.some.inj hy
      exact ⟨away, _, cell _ kin⟩
    · cases hy
  · rw [List.lookup_cons] at hx hy
    split at hx
    · rename_i ex
      split at hy
      · rename_i ey
        rw [beq_iff_eq.mp ex, beq_iff_eq.mp ey]
      · cases hy
    · cases hx
  · match i, hi with
    | 0, hi =>
      obtain rfl := Option.some.inj hi
      refine ⟨c0, by rw [List.lookup_cons_self], fun v hv => ?_⟩
      obtain rfl : V.ref C = v := by simpa using hv
      exact ⟨.ref C, rfl, cell _ kin⟩
    | _ + 1, hi => cases hi
/-- the def by its body -/
theorem ok_clo {oc : Value} {od : Option Addr} {osl : Array (Option Value)} {doc pm ctv : Value} (look : K.lookup f = some ⟨oc, od, .func (F.fd doc pm ctv), osl⟩) (code : PySem.W.codeIn K (.ref F.c) F.qual = true)
    (hcl : F.cl = [(("__class__" : Str), c0)]) (has : ∃ o, K.lookup c0 = some o) (cell : ∀ h : Heap, K.In h → h.IsCell c0 (some (.ref C))) (S : NScope N ps ["__class__"] F.scope) (hlen : ∀ vs H Q E, sp vs H Q E → vs.length = ps.length)
    (hbody : ∀ (A : Around) (outer : List Env) (s : Shared) (H : Hp) (vs : List V) (Q : VK) (E : XK), Room k (A.deeper (envF F f s.heap.objs.size)) → sp vs H Q E →
      ∃ t, PSs (ncx CX P w K mg base N F f A outer s H E) F.body t ∧ t { nx := fun _ H' => Q .non H', rt := Q } (startF N vs [some (.ref C)]) H) :
    FnOk P w K mg base CX (k + 1) f (F.fd doc pm ctv) ps sp := by
  refine ⟨hlen, fun A outer s H args us vs Q E room e0 bnd rel q => ?_⟩
  have below := fun b o (e : base.get? b = some o) => (e0.bs b o e).1
  have kin := e0.mod.kin.keeps below
  refine codeAny_call_function room.depth (kin _ _ look) rfl S.co S.gen rfl (PySem.W.codeRec_of kin code) (bnd _ _ _ _ ?_)
  refine wpAny_newFunctionEnv S.nocell (fun ⟨n, _⟩ hy => S.par n (List.of_mem_zip hy).1) (fun h₁ made grown => ⟨(e0.mod.nolimit.keeps below).fresh _ grown, ?_⟩) S.kind
  show codeAny _ _ (.func F.body (envF F f s.heap.objs.size)) _ _
  refine codeAny_func ?_
  have keep : ∀ b o, s.heap.get? b = some o → h₁.get? b = some o := fun b o e => grown.extBut b o (Nat.ne_of_lt (Heap.lt_size e)) (Heap.get?_push_of_some _ e)
  obtain ⟨t, hps, ht⟩ := hbody A outer s H vs Q E (room.deeper _) q
  have inv := inv_startN (CX := CX) (mg := mg) (f := f) (E := E) (tk := s.toks + (ps.zip us).length) S room.hd e0 (hlen _ _ _ _ q) rel (cell_at (F := F) e0 hcl has cell) made keep
  refine wpAny_mono (hps.run [] _ (startF N vs [some (.ref C)]) H _ inv ht) (fun fl s' out => ?_) fun _ _ out => out
  cases fl with
  | next =>
    obtain ⟨σ', H', J, q'⟩ := out
    exact ⟨V.non, H', J.os, J.bare, J.base, J.hok, rfl, q'⟩
  | ret u =>
    obtain ⟨v, σ', H', J, rv, q'⟩ := out
    exact ⟨v, H', J.os, J.bare, J.base, J.hok, rv, q'⟩
  | brk =>
    obtain ⟨_, _, _, no⟩ := out
    exact False.elim no
  | cont =>
    obtain ⟨_, _, _, no⟩ := out
    exact False.elim no
end
end Vf

set_option maxRecDepth 100000
set_option maxHeartbeats 4000000
namespace Vf
open PySem PySem.Spec PyProof.Rows L2 NdefX
/-- what the written part says of the error class at C, whose __init__ is F, with its cell at c0 -/
structure SupC (P : Program) (K : PySem.W.Frag) (mg : Str → Option Value) (F : NF) (C c0 : Addr) : Prop where
  ox : OexC K C
  hcl : F.cl = [(("__class__" : Str), c0)]
  cell : ∃ cl cld csl, K.lookup c0 = some ⟨cl, cld, .cell (some (.ref C)), csl⟩
  code : ∃ ccl cdd vs ccs file tf, K.lookup F.c = some ⟨ccl, cdd, .fields vs, ccs⟩ ∧ vs[2]? = some (.str file tf) ∧ ((P.main.file : Str) == file) = true
  sub : PySem.W.mroIn K C (.ref C) = some true
  up : PySem.W.ks_superIn K C C "__init__" = some (some (.builtin "ValueError.__init__"))
  isV : PySem.W.subIn K (.ref C) (.type "ValueError") = some true
  any : PySem.W.nsIn K cStatics "thirdparty.any" = some none
  top : (P.main.scope.names.lookup ("super" : Str)).isSome = false
  mg : mg "super" = none
section
variable {X : Cx} {pins : List (Addr × Obj)} {σ : L2.St} {H : Hp} {s : Shared} {a C : Addr} {A : Around} {E : Value → Shared → Prop}
theorem bw_ok {u : Addr} {us : List Value} {Q : Value → Shared → Prop} (T : OexC X.K C) (I : Inv X pins σ H s) (e : H a = some (exo a C none)) (hu : s.heap.get? u = some (PySem.W.kxs_mw "ValueError.__init__" a)) (hl : us.length ≤ sizeLine)
    (h : ∀ s', Inv X pins σ H s' → Q .none s') : wpAny (model X.prog X.w) A (call (.ref u) us) Q E s := by
  obtain ⟨nm, q, N, bs, bm, sn, sub, ab, col, dd, k0, k1, k2, k3, k5, hC, hbm⟩ := T.cls
  obtain ⟨t1, ho⟩ := exo_at I.hok e
  obtain ⟨hp, g, d, t, os⟩ := s
  refine wpAny_call (codeAny_of_tree ?_)
  show wpAny _ A.in1 (callAny (.ref u) ⟨us, []⟩) _ _ _
  simp only [callAny]
  refine wpAny_bind (wpAny_load hu ?_)
  simp only [PySem.W.kxs_mw, show (Value.type "method-wrapper" == Value.type "method" || Value.type "method-wrapper" == Value.type "builtin_function_or_method" || Value.type "method-wrapper" == Value.type "method-wrapper") = true by decide, if_true]
  refine PySem.W.KFB.if_so (by decide) ?_
  refine wpAny_bind (PySem.W.check_bound_init F.excBase_ValueError.toExcCallFacts (I.kIn _ _ hC) ho rfl ?_)
  refine wpAny_bind (wpAny_pure (wpAny_pure ?_))
  refine ⟨plainId_quiet F.excBase_ValueError.init.plain _, codeAny_builtin F.excBase_ValueError.initEntry ?_⟩
  refine PySem.W.exc_init_tree (cls := .ref C) (t0 := t1) (dv := none) (c2 := .none) (c3 := .none) (b4 := .bool false) ho hl fun h' k hx _ => ?_
  have J := I.write (t' := t) (x := a) (e := a) (o := exo a C none) (by rw [e]; exact True.intro) (.inl rfl) k ⟨_, hx⟩ (exo_ok hx)
  have eu : upd H a (exo a C none) = H := by
    funext b
    by_cases hb : b = a
    · rw [hb, upd_same, e]
    · rw [upd_ne hb]
  rw [eu] at J
  exact h _ J
theorem callWith_mw {M : Model} {pos : Pos} {u x : Addr} {i : String} {env : Env} {e : Expr} {rest : List Expr} {Q : Value → Shared → Prop}
    (h : wpAny M A (spliced (backTo pos (starEach (e :: rest) env))) (fun vs s₁ => s₁.heap.get? u = some (PySem.W.kxs_mw i x) ∧ wpAny M A (call (.ref u) vs) Q E s₁) E s)
    (he : starEach (e :: rest) env = (false, eval e env) :: starEach rest env := by rfl) (hplain : (backTo pos (starEach rest env)).any (·.1) = false := by rfl) :
    wpAny M A (callWith pos (.ref u) [] (backTo pos (starEach (e :: rest) env)) []) Q E s := by
  rw [he] at h ⊢
  refine PySem.W.kxs_callWith (i := i) (x := x) (by show (false || (backTo pos (starEach rest env)).any (·.1)) = false; rw [hplain]; rfl) ?_
  exact Calls.evalArgs_plain h
theorem pin_new {o : Obj} (I : Inv X pins σ H s) (hd : ∀ v, o.data ≠ .cell v) (hfr : o.isFreed = false) (t : Nat) : Inv X ((s.heap.objs.size, o) :: pins) σ H { s with heap := s.heap.push o, toks := t } := by
  have k : ∀ b u, s.heap.get? b = some u → (s.heap.push o).get? b = some u := fun b u e => Heap.get?_push_of_some _ e
  have J : Inv X pins σ H { s with heap := s.heap.push o, toks := t } := I.kept k
  refine J.pins_of fun p hp => ?_
  rcases List.mem_cons.mp hp with rfl | hp
  · exact ⟨Heap.get?_push_at rfl hfr, I.hok.fresh (Nat.le_refl _), Nat.ne_of_gt I.lt, I.nofs (Nat.le_refl _), hd⟩
  · exact J.pin p (List.mem_append_right _ hp)
/-- super().__init__(e) in the __init__ of the error class C -/
theorem at_super {F : NF} {body : List Stmt} {f c0 : Addr} {doc pm ctv oc : Value} {od : Option Addr} {osl : Array (Option Value)} {sx : Str} {e : Expr} {es : List Expr} {ta : TA} {p0 p1 p2 p3 p4 : Pos} {Q : Flow → Shared → Prop}
    (S : SupC X.prog X.K X.mg F C c0) (I : Inv X pins σ H s) (henv : ∃ L, X.env = envF F f L) (look : X.K.lookup f = some ⟨oc, od, .func (F.fd doc pm ctv), osl⟩)
    (hp : (F.params.posonlyargs ++ F.params.args).head?.map (·.arg) = some sx) (hN : X.N[0]? = some sx) (hv : F.scope.names.lookup sx = some .local) (hks : F.scope.names.lookup ("super" : Str) = some .globalImplicit) (hkc : F.scope.names.lookup ("__class__" : Str) = some .free)
    (hs0 : σ[0]? = some (some (.ref a))) (ea : H a = some (exo a C none)) (hcd : (sx == ("__classdict__" : Str)) = false)
    (ha : PA X (e :: es) ta) (he : starEach (e :: es) X.env = (false, eval e X.env) :: starEach es X.env) (hpl : (backTo p3 (starEach es X.env)).any (·.1) = false)
    (hev : eval (.Call (.Attribute (.Call (.Name "super" p0) [] [] p1) "__init__" p2) (e :: es) [] p3) X.env = (do
      let ov ← attributeBase (.Call (.Name "super" p0) [] [] p1) "__init__" X.env (eval (.Call (.Name "super" p0) [] [] p1) X.env)
      standAt p2.atName
      let (f, first) ← holding [ov] (getMethod ov "__init__" (pure false))
      callWith p3 f first (backTo p3 (starEach (e :: es) X.env)) []))
    (hi : interactive X.env = false) (hsw : swapsWith (.Call (.Attribute (.Call (.Name "super" p0) [] [] p1) "__init__" p2) (e :: es) [] p3) none p4.line X.env = pure false)
    {R : List V → Hp → Prop} (h : ta σ H R) (hR : ∀ vs H1, R vs H1 → vs.length ≤ 1000 ∧ H1 a = some (exo a C none) ∧ ∀ s', Inv X pins σ H1 s' → Q .next s') :
    _root_.PySem.wpAt (model X.prog X.w) X.A (.func body X.env) (exec (.Expr (.Call (.Attribute (.Call (.Name "super" p0) [] [] p1) "__init__" p2) (e :: es) [] p3) p4) X.env) Q X.xe s := by
  obtain ⟨L, henv⟩ := henv
  obtain ⟨cl, cld, csl, hcell⟩ := S.cell
  obtain ⟨ccl, cdd, vs, ccs, file, tf, hcode, hvs, hfile⟩ := S.code
  obtain ⟨nm, q, N, bs, bm, sn, sub, ab, col, dd, k0, k1, k2, k3, k5, hC, hbm⟩ := S.ox.cls
  have hcd0 : ∃ cd, PySem.W.clsIn X.K C = some cd := by
    refine ⟨{ name := nm, bases := bs, mro := .ref C :: bm, ns := N, qualname := q, hasDict := true, slotNames := sn, subclasses := sub, abstract := ab, collection := col, hasDel := false }, ?_⟩
    unfold PySem.W.clsIn
    rw [hC] <;> rfl
  obtain ⟨cd, hclsC⟩ := hcd0
  have hks' : X.env.kindOf "super" = some .globalImplicit := by rw [henv]; exact hks
  have hkc' : X.env.kindOf "__class__" = some .free := by rw [henv]; exact hkc
  obtain ⟨ar, har, hars⟩ : ∃ ar, (F.params.posonlyargs ++ F.params.args).head? = some ar ∧ ar.arg = sx := by
    cases z : (F.params.posonlyargs ++ F.params.args).head? with
    | none => rw [z] at hp; cases hp
    | some ar => rw [z] at hp; exact ⟨ar, rfl, Option.some.inj hp⟩
  obtain ⟨hh, g, d, t, os⟩ := s
  have kin := I.kIn
  obtain ⟨t1, ho⟩ := exo_at I.hok ea
  refine PySem.ks_wpAt_Expr_any (PySem.ks_wpAt_MethodCall ?_ hev) hi hsw
  refine PySem.ks_wpAt_super_base (f := f) (cc := F.c) (fd := F.fd doc pm ctv) (ar := ar) hks' hkc' (by decide) (by rw [henv] <;> rfl) (kin _ _ look) rfl har (by rw [henv] <;> rfl) (kin _ _ hcode) rfl hvs hfile S.top ?_
  obtain ⟨mb, h1, h2⟩ := I.mod.blt
  refine PySem.W.ks_loadName_global I.ok.kind hks' (Calls.loadGlobal_builtin (by rw [I.ok.glob]; exact I.mod.glob.keeps I.bk) S.mg (by rw [I.ok.blt]; exact h1.keeps I.bk) ((h2 _ (by decide)).trans (by decide +kernel)) ⟨rfl, ?_⟩)
  have hc0 : X.env.cells.lookup ("__class__" : Str) = some c0 := by
    rw [henv]
    show F.cl.lookup ("__class__" : Str) = some c0
    rw [S.hcl, List.lookup_cons_self]
  refine wpAny_loadName_free I.ok.kind hkc' hc0 ⟨_, kin _ _ hcell, rfl⟩ ?_
  obtain ⟨m, hns, hlk⟩ := I.loc
  obtain ⟨u0, r0, l0⟩ := hlk 0 sx (.ref a) hN hs0 (by rw [henv]; exact .inl hv)
  obtain rfl : u0 = Value.ref a := r0
  have hkx : X.env.kindOf sx = some .local := by rw [henv]; exact hv
  have hm : m sx = some (.ref a) := by
    rcases l0 with ⟨_, hm⟩ | ⟨hk, _⟩
    · exact hm
    · rcases hk with hk | hk <;> rw [hkx] at hk <;> cases hk
  rw [hars]
  refine PySem.wpAny_loadName_local I.ok.kind hkx hns hm ?_
  refine PySem.ks_wpAny_isType_cls (kin _ _ hC) rfl ⟨rfl, ?_⟩
  refine PySem.ks_wpAny_call_super (kin _ _ hC) rfl ho rfl (fun c z => by cases z) (PySem.W.looks_mroIn kin S.sub) (fun h' e2 k => ?_)
  have I1 : Inv X pins σ H ⟨h', g, d, t, os⟩ := I.kept k
  have kin1 := I1.kIn
  have ho1 := k _ _ ho
  have IA : PySem.W.InstAt h' a ({ cls := .ref C, dict := none, data := .fields #[.ref t1, .none, .none, .none, .bool false, .none] } : Obj) C none := ⟨ho1, rfl, rfl, trivial⟩
  have hup := S.up
  unfold PySem.W.ks_superIn at hup
  rw [hclsC] at hup
  refine PySem.W.kxs_getMethod PySem.W.kxs_ValueError e2 (PySem.W.looks_opaque kin1 S.any) (l₀ := cd.mro) (fun A Q E s k q => wpAny_bind ((PySem.W.looks_clsIn kin1 hclsC) A _ E s k (wpAny_pure q))) rfl kin1 hup (IA.type.andThen (PySem.W.looks_subIn kin1 S.isV)) (PySem.W.ks_ne kin1 IA hclsC) (by decide) ?_
  have I2 := pin_new (o := PySem.W.kxs_mw "ValueError.__init__" a) I1 (fun v z => by cases z) rfl (t + 1)
  refine callWith_mw (i := "ValueError.__init__") (x := a) (thn (ha.run p3 _ _ σ H _ I2 h) fun us s1 ⟨vs1, H1, J, rv, hr1⟩ => ?_) he hpl
  obtain ⟨hl, ea1, q1⟩ := hR _ _ hr1
  refine ⟨(J.pin (h'.objs.size, PySem.W.kxs_mw "ValueError.__init__" a) (List.mem_append_right _ (List.mem_cons_self ..))).1, ?_⟩
  have J' : Inv X pins σ H1 s1 := J.pins_of fun p hp => J.pin p (List.mem_append_right _ (List.mem_cons_of_mem _ hp))
  refine bw_ok S.ox J' ea1 ((J.pin (h'.objs.size, PySem.W.kxs_mw "ValueError.__init__" a) (List.mem_append_right _ (List.mem_cons_self ..))).1) ?_ fun s' J2 => q1 s' J2
  rw [← Paired.length rv, sizeLine_eq]
  omega
end
section
variable {CX : CXT} {P : Program} {w : World} {K : PySem.W.Frag} {mg : Str → Option Value} {base : Heap} {N ps : List Str} {F : NF} {f C c0 : Addr} {k : Nat} {sp : Sp}
/-- the def by its body: super().__init__(e) first, then the rest -/
theorem ok_sup {oc doc pm ctv : Value} {od : Option Addr} {osl : Array (Option Value)} {e : Expr} {es : List Expr} {p0 p1 p2 p3 p4 : Pos} {rest : List Stmt} {sx : Str}
    (T : SupC P K mg F C c0) (look : K.lookup f = some ⟨oc, od, .func (F.fd doc pm ctv), osl⟩) (code : PySem.W.codeIn K (.ref F.c) F.qual = true)
    (hb : F.body = .Expr (.Call (.Attribute (.Call (.Name "super" p0) [] [] p1) "__init__" p2) (e :: es) [] p3) p4 :: rest)
    (hp : (F.params.posonlyargs ++ F.params.args).head?.map (·.arg) = some sx) (hN : N[0]? = some sx) (hv : F.scope.names.lookup sx = some .local) (hks : F.scope.names.lookup ("super" : Str) = some .globalImplicit) (hkc : F.scope.names.lookup ("__class__" : Str) = some .free) (hcd : (sx == ("__classdict__" : Str)) = false)
    (he : ∀ L, starEach (e :: es) (envF F f L) = (false, eval e (envF F f L)) :: starEach es (envF F f L)) (hpl : ∀ L, (backTo p3 (starEach es (envF F f L))).any (·.1) = false)
    (hev : ∀ L, eval (.Call (.Attribute (.Call (.Name "super" p0) [] [] p1) "__init__" p2) (e :: es) [] p3) (envF F f L) = (do
      let ov ← attributeBase (.Call (.Name "super" p0) [] [] p1) "__init__" (envF F f L) (eval (.Call (.Name "super" p0) [] [] p1) (envF F f L))
      standAt p2.atName
      let (g, first) ← holding [ov] (getMethod ov "__init__" (pure false))
      callWith p3 g first (backTo p3 (starEach (e :: es) (envF F f L))) []))
    (hi : ∀ L, interactive (envF F f L) = false) (hsw : ∀ L, swapsWith (.Call (.Attribute (.Call (.Name "super" p0) [] [] p1) "__init__" p2) (e :: es) [] p3) none p4.line (envF F f L) = pure false)
    (S : NScope N ps ["__class__"] F.scope) (hlen : ∀ vs H Q E, sp vs H Q E → vs.length = ps.length)
    (hbody : ∀ (A : Around) (outer : List Env) (s : Shared) (H : Hp) (vs : List V) (Q : VK) (E : XK), Room k (A.deeper (envF F f s.heap.objs.size)) → sp vs H Q E →
      ∃ ta t, PA (ncx CX P w K mg base N F f A outer s H E) (e :: es) ta ∧ PSs (ncx CX P w K mg base N F f A outer s H E) rest t ∧ ∃ a us, vs = .ref a :: us ∧ H a = some (exo a C none) ∧
        ta (startF N vs [some (.ref C)]) H fun ws H1 => ws.length ≤ 1000 ∧ H1 a = some (exo a C none) ∧ t { nx := fun _ H' => Q .non H', rt := Q } (startF N vs [some (.ref C)]) H1) :
    FnOk P w K mg base CX (k + 1) f (F.fd doc pm ctv) ps sp := by
  refine ⟨hlen, fun A outer s H args us vs Q E room e0 bnd rel q => ?_⟩
  have below := fun b o (e : base.get? b = some o) => (e0.bs b o e).1
  have kin := e0.mod.kin.keeps below
  obtain ⟨cl, cld, csl, hcell⟩ := T.cell
  refine codeAny_call_function room.depth (kin _ _ look) rfl S.co S.gen rfl (PySem.W.codeRec_of kin code) (bnd _ _ _ _ ?_)
  refine wpAny_newFunctionEnv S.nocell (fun ⟨n, _⟩ hy => S.par n (List.of_mem_zip hy).1) (fun h₁ made grown => ⟨(e0.mod.nolimit.keeps below).fresh _ grown, ?_⟩) S.kind
  show codeAny _ _ (.func F.body (envF F f s.heap.objs.size)) _ _
  refine PySem.ks_codeAny_funcAt ?_
  have keep : ∀ b o, s.heap.get? b = some o → h₁.get? b = some o := fun b o e => grown.extBut b o (Nat.ne_of_lt (Heap.lt_size e)) (Heap.get?_push_of_some _ e)
  obtain ⟨ta, t, hpa, hps, a, us', hvs, ea, ht⟩ := hbody A outer s H vs Q E (room.deeper _) q
  have inv := inv_startN (CX := CX) (mg := mg) (f := f) (E := E) (tk := s.toks + (ps.zip us).length) S room.hd e0 (hlen _ _ _ _ q) rel (cell_at (F := F) e0 T.hcl ⟨_, hcell⟩ (fun h ki => ⟨_, ki _ _ hcell, rfl⟩)) made keep
  rw [hb]
  refine PySem.ks_wpAt_execs_cons ?_
  refine at_super (X := ncx CX P w K mg base N F f A outer s H E) (a := a) T inv ⟨_, rfl⟩ look hp hN hv hks hkc (by rw [hvs] <;> rfl) ea hcd hpa (he _) (hpl _) (hev _) (hi _) (hsw _) ht fun vs1 H1 ⟨hl, ea1, ht1⟩ => ⟨hl, ea1, fun s' J => ?_⟩
  refine wpAt_of_wpAny (wpAny_mono (hps.run [] _ _ H1 _ J ht1) (fun fl s' out => ?_) fun _ _ out => out)
  cases fl with
  | next =>
    obtain ⟨σ', H', J, q'⟩ := out
    exact ⟨V.non, H', J.os, J.bare, J.base, J.hok, rfl, q'⟩
  | ret u =>
    obtain ⟨v, σ', H', J, rv, q'⟩ := out
    exact ⟨v, H', J.os, J.bare, J.base, J.hok, rv, q'⟩
  | brk =>
    obtain ⟨_, _, _, no⟩ := out
    exact False.elim no
  | cont =>
    obtain ⟨_, _, _, no⟩ := out
    exact False.elim no
end
end Vf

set_option maxRecDepth 100000
set_option maxHeartbeats 4000000
namespace Vf
open PySem PySem.Spec PyProof.Rows L2 NdefX ClX
/-- the promise of such an error's __init__ -/
def sp_err (C : Addr) (fld : Str) : Sp := fun vs H Q _ => ∃ (a : Addr) (v : V), vs = [.ref a, v] ∧ H a = some (exo a C none) ∧ ∀ dx, H dx = none → dx ≠ a → Q .non (upd (upd H dx (exd dx [(fld, v)])) a (exo a C (some dx)))
/-- what the text says of an own error with the field fld, __init__ at fI -/
structure ErrC (K : PySem.W.Frag) (mg : Str → Option Value) (x : Str) (C fI : Addr) (fld : Str) : Prop where
  ox : OexC K C
  xf : XfC K C
  iC : PySem.W.findIn K (.ref C) "__init__" = some (some (.ref fI))
  tI : PySem.W.typeIn K (.ref fI) = some (.type "function")
  gC : mg x = some (.ref C)
  kC : PySem.W.keepIn K (.ref C) = true
  no : PySem.W.findIn K (.ref C) fld = some none
  te : PySem.W.exmOne K (.ref C) (.ref C) = some true
/-- the def as it can be called -/
structure ErrF (P : Program) (w : World) (K : PySem.W.Frag) (mg : Str → Option Value) (base : Heap) (x : Str) (C : Addr) (fld : Str) : Prop where
  ex : ∃ (fI : Addr) (fd : FuncData) (ps : List Str), ErrC K mg x C fI fld ∧ Binds K fd ps [] ∧ FnOk P w K mg base CX0 1 fI fd ps (sp_err C fld)
theorem upd_self_none {H : Hp} {a d : Addr} {fs : List (Str × V)} {o1 o2 : HO} {u : HO} (ha : H a = none) (hda : d ≠ a) : upd (del (upd (upd (upd H a o1) d u) a o2) a) d (.xd fs) = upd H d (.xd fs) := by
  funext b
  by_cases hb : b = d
  · rw [hb, upd_same, upd_same]
  · rw [upd_ne hb, upd_ne hb]
    by_cases hba : b = a
    · rw [hba, del_same, ha]
    · rw [del_ne hba, upd_ne hba, upd_ne hb, upd_ne hba]
theorem mkO_err {C : Addr} {fld : Str} {v : V} {H : Hp} {Q : XK} (h : ∀ d, H d = none → Q (.ref C) (some d) (upd H d (.xd [(fld, v)]))) :
    [v].length ≤ 1000 ∧ ∀ a, H a = none → sp_err C fld (.ref a :: ([v] ++ [])) (upd H a (exo a C none))
      (fun v H2 => v = .non ∧ ∃ (d : Addr) (fs : List (Str × V)), H2 a = some (exo a C (some d)) ∧ H2 d = some (exd d fs) ∧ H d = none ∧ Q (.ref C) (some d) (upd (del H2 a) d (.xd fs))) (fun _ _ _ => False) := by
  refine ⟨by show 1 ≤ 1000; decide, fun a ha => ⟨a, v, rfl, upd_same, fun dx hdx hne => ⟨rfl, dx, [(fld, v)], upd_same, ?_, ?_, ?_⟩⟩⟩
  · rw [upd_ne hne, upd_same]
  · rw [upd_ne hne] at hdx
    exact hdx
  · have hd : H dx = none := by
      rw [upd_ne hne] at hdx
      exact hdx
    rw [upd_self_none ha hne]
    exact h dx hd
section
variable {X : Cx} {W : WX} {C : Addr} {fld x : Str} {e : Expr} {te : TE} {p pos pos2 : Pos}
/-- raise X(e) -/
theorem ps_raiseE (hc : X.calm = true) (T : ErrF X.prog X.w X.K X.mg X.base x C fld) (hr : Room 2 X.A) (tk : Takes X W) (he : PE X e te) (hg : Gl X x)
    (hdb : (x == ("__debug__" : Str)) = false := by decide) (hst : starEach (e :: []) X.env = (false, eval e X.env) :: starEach [] X.env := by rfl) (hpl : (backTo pos (starEach [] X.env)).any (·.1) = false := by rfl) :
    PS X (.Raise (some (.Call (.Name x p) [e] [] pos)) none pos2) (fun _ σ H => tMkO C (sp_err C fld) [] (tCons te tNil) σ H fun cls d H' => W cls d σ H') := by
  obtain ⟨fI, fd, ps, T, hb, F⟩ := T.ex
  exact ps_raise hc tk (pmk_oex T.ox T.iC T.tI F hr hb .nil pass0 hg T.gC (pa_cons he pa_nil hst) hdb hst hpl)
end
section
variable {P : Program} {w : World} {K : PySem.W.Frag} {mg : Str → Option Value} {base : Heap} {N ps : List Str} {F : NF} {f C c0 : Addr}
/-- the __init__ of such an error: super().__init__(text); self.fld = y -/
theorem ok_err {oc doc pm ctv : Value} {od : Option Addr} {osl : Array (Option Value)} {m : Str} {fld sx sy : Str} {j : Nat} {p0 p1 p2 p3 p4 p5 p6 p7 p8 p9 : Pos}
    (T : SupC P K mg F C c0) (look : K.lookup f = some ⟨oc, od, .func (F.fd doc pm ctv), osl⟩) (code : PySem.W.codeIn K (.ref F.c) F.qual = true)
    (hb : F.body = [.Expr (.Call (.Attribute (.Call (.Name "super" p0) [] [] p1) "__init__" p2) [.Constant (.str m) j p3] [] p4) p5, .Assign [.Attribute (.Name sx p6) fld p7] (.Name sy p8) p9])
    (hp : (F.params.posonlyargs ++ F.params.args).head?.map (·.arg) = some sx) (hN : N = [sx, sy, "__class__"]) (hps : ps = [sx, sy]) (hv : F.scope.names.lookup sx = some .local) (hvy : F.scope.names.lookup sy = some .local)
    (hks : F.scope.names.lookup ("super" : Str) = some .globalImplicit) (hkc : F.scope.names.lookup ("__class__" : Str) = some .free) (hcd : (sx == ("__classdict__" : Str)) = false) (hcdy : (sy == ("__classdict__" : Str)) = false)
    (hdx : (sx == ("__debug__" : Str)) = false) (hdy : (sy == ("__debug__" : Str)) = false)
    (hev : ∀ L, eval (.Call (.Attribute (.Call (.Name "super" p0) [] [] p1) "__init__" p2) [.Constant (.str m) j p3] [] p4) (envF F f L) = (do
      let ov ← attributeBase (.Call (.Name "super" p0) [] [] p1) "__init__" (envF F f L) (eval (.Call (.Name "super" p0) [] [] p1) (envF F f L))
      standAt p2.atName
      let (g, first) ← holding [ov] (getMethod ov "__init__" (pure false))
      callWith p4 g first (backTo p4 (starEach [.Constant (.str m) j p3] (envF F f L))) []))
    (hi : ∀ L, interactive (envF F f L) = false) (hsw : ∀ L, swapsWith (.Call (.Attribute (.Call (.Name "super" p0) [] [] p1) "__init__" p2) [.Constant (.str m) j p3] [] p4) none p5.line (envF F f L) = pure false)
    (hsw2 : ∀ L, swapsWith (.Name sy p8) (some (.Attribute (.Name sx p6) fld p7)) p9.line (envF F f L) = pure false)
    (S : NScope N ps ["__class__"] F.scope) (no : PySem.W.findIn K (.ref C) fld = some none) :
    FnOk P w K mg base CX0 1 f (F.fd doc pm ctv) ps (sp_err C fld) := by
  subst hN hps
  refine ok_sup (k := 0) (sx := sx) T look code hb hp rfl hv hks hkc hcd (fun _ => by rfl) (fun _ => by rfl) hev hi hsw S (fun vs H Q E h => ?_) (fun A outer s H vs Q E hr h => ?_)
  · obtain ⟨a, v, rfl, _⟩ := h
    rfl
  · obtain ⟨a, v, rfl, ea, k⟩ := h
    refine ⟨_, _, pa_cons pe_str pa_nil, pss_one (ps_ost (pe_var (i := 0) rfl (.inl hv) hdx hcd) (pe_var (i := 1) rfl (.inl hvy) hdy hcdy) (hsw2 _)), a, [v], rfl, ea, ?_⟩
    refine ⟨by show 1 ≤ 1000; decide, ea, _, rfl, _, rfl, a, C, rfl, T.ox, no, .inl ⟨ea, fun dx hdx hne => k dx hdx hne⟩⟩
end
/-- C.m(e, ..), m static, that may raise -/
def tSMs (C : Addr) (sp : Sp) (E : L2.St → XK) (ta : TE) (t : TA) : TE := fun σ H Q => ta σ H fun x H1 => x = .ref C ∧ t σ H1 fun vs H2 => sp vs H2 Q (E σ)
section
variable {X : Cx} {CX : CXT} {k : Nat} {C p g : Addr} {fd : FuncData} {ps : List Str} {sp : Sp} {E : L2.St → XK} {o e : Expr} {es : List Expr} {m : Str} {pos apos : Pos} {ta : TE} {t : TA} {pl : Sem Bool} {mc : Value}
theorem pe_smethS (he : PE X o ta) (r : CRead X.K C mc) (c : SMet X.K C mc m p g)
    (F : FnOk X.prog X.w X.K X.mg X.base CX k g fd ps sp) (hr : Room k X.A) (hb : Binds X.K fd ps []) (hx : ∀ σ, PassesAt CX X σ (E σ))
    (ha : PA X (e :: es) t) (hst : starEach (e :: es) X.env = (false, eval e X.env) :: starEach es X.env := by rfl)
    (hpl : (backTo pos (starEach es X.env)).any (·.1) = false := by rfl)
    (ht : eval (.Call (.Attribute o m apos) (e :: es) [] pos) X.env = (do
      let ov ← eval o X.env
      standAt apos.atName
      let (f, first) ← holding [ov] (getMethod ov m pl)
      callWith pos f first (backTo pos (starEach (e :: es) X.env)) (backToKw pos (keywordEach [] X.env))) := by rfl) :
    PE X (.Call (.Attribute o m apos) (e :: es) [] pos) (tSMs C sp E ta t) := by
  refine ⟨fun pins s σ H Q I h => PySem.W.methodCall_KW (pl := pl) (thn (he.run pins s σ H _ I h) ?_) ht⟩
  rintro u s1 ⟨x, H1, I1, rx, rfl, q⟩
  obtain rfl : u = Value.ref C := rx
  obtain ⟨rest, hp⟩ := c.rc
  refine PySem.W.method_cls I1.kIn r.ga (PySem.W.cls_bind I1.kIn r.rd c.fd (wpAny_call
    (PySem.W.sm_get (s := { s1 with toks := s1.toks + 1 }) I1.kIn hp (PySem.W.handed_on rfl ?_))))
  have I2 : Inv X pins σ H1 { s1 with toks := s1.toks + 1 } := I1.tok _
  refine PySem.W.callWith_K (h₀ := X.base) I.ok.mod.kin c.kp (thn (ha.run pos pins _ σ H1 _ I2 q) ?_) hst hpl
  rintro us s2 ⟨vs, H2, I3, rv, q2⟩
  exact ⟨I3.kIn, run_fnS F hr hb (hx σ) I3 rv q2⟩
/-- what a def that may raise lets out of its callees -/
theorem passX {W : WX} {E : XK} (tk : Takes X W) (h : ∀ cls d σ H, E cls d H → W cls d σ H) : Passes (L2.CX X.prog X.w) X E := fun _ σ _ _ e s' I c => tk e s' (XE.of_call I (fun cls d H' h' => h cls d σ H' h') c)
end
end Vf

set_option maxRecDepth 100000
set_option maxHeartbeats 4000000
namespace Vf
open PySem PySem.Spec PyProof.Rows L2 LamX ClX
/-- one parameter, captured names and globals -/
structure LamS1 (sc scope : Scope) (y : Str) : Prop where
  kind : scope.kind = .function
  co : scope.isCoroutine = false
  gen : scope.isGenerator = false
  par : scope.names.lookup y = some .local
  own : ∀ z ∈ scope.names, z.2 ≠ .cell ∧ (z.2 = .local → z.1 = y)
  free : ∀ z ∈ scope.names, z.2 = .free → sc.names.lookup z.1 = some .cell ∨ sc.names.lookup z.1 = some .free
def lamSB1 (sc scope : Scope) (y : Str) : Bool :=
  decide (scope.kind = .function) && !scope.isCoroutine && !scope.isGenerator && decide (scope.names.lookup y = some .local) && scope.names.all fun z => !decide (z.2 = .cell) && (!decide (z.2 = .local) || decide (z.1 = y)) && (!decide (z.2 = .free) || decide (sc.names.lookup z.1 = some .cell) || decide (sc.names.lookup z.1 = some .free))
theorem lamS1_by {sc scope : Scope} {y : Str} (h : lamSB1 sc scope y = true) : LamS1 sc scope y := by
  unfold lamSB1 at h
  simp only [Bool.and_eq_true, Bool.or_eq_true, Bool.not_eq_true', decide_eq_true_eq, decide_eq_false_iff_not, List.all_eq_true] at h
  obtain ⟨⟨⟨⟨h1, h2⟩, h3⟩, h5⟩, h4⟩ := h
  refine ⟨h1, h2, h3, h5, fun z hz => ⟨(h4 z hz).1.1, fun e => ?_⟩, fun z hz e => ?_⟩
  · rcases (h4 z hz).1.2 with q | q
    · exact absurd e q
    · exact q
  · rcases (h4 z hz).2 with (q | q) | q
    · exact absurd e q
    · exact .inl q
    · exact .inr q
theorem LamS1.has {X : Cx} {scope : Scope} {y : Str} (L : LamS1 X.env.scope scope y) (ok : X.Ok) : ∀ z ∈ scope.names, z.2 = .free → ∃ c, X.env.cells.lookup z.1 = some c := fun z hz e => by
  rcases L.free z hz e with k | k
  · exact ok.has _ (.inl k)
  · exact ok.has _ (.inr k)
/-- the context of the lambda's body: the maker's names and the parameter -/
def lamCx1 (X : Cx) (A : Around) (outer : List Env) (s : Shared) (H : Hp) (E : XK) (scope : Scope) (f c' : Addr) (y : Str) : Cx where
  prog := X.prog
  w := X.w
  K := X.K
  mg := X.mg
  base := X.base
  A := A.deeper (lamEnv X scope s.heap.objs.size f c')
  N := X.N ++ [y]
  s_0 := s
  H_0 := H
  env := lamEnv X scope s.heap.objs.size f c'
  outer := outer
  stack := lamEnv X scope s.heap.objs.size f c' :: outer
  ex := []
  fn := fun _ => false
  calm := true
  pn := []
  xe := fun e s' => wpAny (model X.prog X.w) (A.deeper (lamEnv X scope s.heap.objs.size f c')) (leaving (lamEnv X scope s.heap.objs.size f c') e) (fun _ s'' => L2.CX X.prog X.w outer H s E e s'') (fun e' s'' => L2.CX X.prog X.w outer H s E e' s'') s'
section
variable {X : Cx} {pins : List (Addr × Obj)} {σ : L2.St} {H HZ : Hp} {s s1 : Shared}
theorem lam_start1 {A : Around} {outer : List Env} {E : XK} {scope : Scope} {f c' : Addr} {y : Str} {u : Value} {v : V} {h₁ : Heap} {tk : Nat} (I : Inv X pins σ H s) (L : LamS1 X.env.scope scope y) (hy : y ∉ X.N) (e0 : Env0 X.prog X.w X.K X.mg X.base A outer s1 HZ) (hd : A.handled = none)
    (un : Un (frs X.stack) [] H HZ s.heap s1.heap) (rv : RelV v u) (hns : h₁.Ns s1.heap.objs.size fun z => ([(y, u)] : List (Str × Value)).reverse.lookup z) (kp : ∀ b o, s1.heap.get? b = some o → h₁.get? b = some o) :
    Inv (lamCx1 X A outer s1 HZ E scope f c' y) [] (σ ++ [some v]) HZ { s1 with heap := h₁, toks := tk } := by
  have hfree := L.has I.ok
  have cm : ∀ {y c}, (cloFrom X.env.cells scope.names []).lookup y = some c → X.env.cells.lookup y = some c := fun {y c} e => by
    rcases cloFrom_mem (PySem.mem_of_lookup e) with hm | ⟨h1, h2⟩
    · cases hm
    · obtain ⟨c1, hc⟩ := hfree _ h1 rfl
      have hc : X.env.cells.lookup y = some c1 := hc
      have e2 : c = c1 := by
        rw [h2, hc] <;> rfl
      rw [e2]
      exact hc
  have look : ∀ {y}, scope.names.lookup y = some .free → ∃ c, (cloFrom X.env.cells scope.names []).lookup y = some c := fun {y} hl => by
    have hy : (y, NameKind.free) ∈ scope.names := PySem.mem_of_lookup hl
    exact mem_lookup (cloFrom_has (cells := X.env.cells) (acc := []) hy)
  have cellK : ∀ {c : Addr} {v : Option Value}, H c = none → s.heap.IsCell c v → h₁.IsCell c v := fun {c v} n ⟨o, ho, hd⟩ => by
    obtain ⟨sl, q⟩ := un.any ho n (by simp)
    exact ⟨_, kp _ _ q, hd⟩
  have noA : ∀ b : Addr, b ∉ (lamCx1 X A outer s1 HZ E scope f c' y).ex := fun b z => absurd (show b ∈ ([] : List Addr) from z) (by simp)
  refine ⟨⟨e0.mod, L.kind, rfl, rfl, Nat.le_refl _, fun y z c e1 e2 => I.ok.inj y z c (cm e1) (cm e2), fun y hy => ?_, fun y c z _ => ?_, fun _ => hd, Around.frames_deeper e0.frames, .inr ⟨rfl, rfl⟩, fun b z => absurd z (noA b), e0.bs, e0.bsz, fun b _ _ => noA b,
      fun b z => absurd z (noA b), e0.funs, e0.frf⟩,
    rfl, e0.bare, Un.kept kp, ⟨_, hns, fun i z v' e1 e2 e3 => ?_⟩, fun y c e => ?_, e0.hok.fresh (Nat.le_refl _), fun y c e => ?_, fun q hq => absurd (show q ∈ ([] : List (Addr × Obj)) ++ [] from hq) (by simp), e0.hok.kept kp, ?_⟩
  · have hy : scope.names.lookup y = some .cell ∨ scope.names.lookup y = some .free := hy
    rcases hy with hy | hy
    · exact absurd rfl (L.own _ (PySem.mem_of_lookup hy)).1
    · exact look hy
  · have z : false = true := z
    cases z
  · have e3 : Vis scope z := e3
    have e1 : (X.N ++ [y])[i]? = some z := e1
    have lN : σ.length = X.N.length := I.len
    by_cases hi : i < σ.length
    · rw [List.getElem?_append_left (by omega)] at e1
      rw [List.getElem?_append_left hi] at e2
      have hzy : z ≠ y := fun q => hy (q ▸ List.mem_of_getElem? e1)
      rcases e3 with k | k | k
      · exact absurd ((L.own _ (PySem.mem_of_lookup k)).2 rfl) hzy
      · exact absurd rfl (L.own _ (PySem.mem_of_lookup k)).1
      · obtain ⟨m, hn, hl⟩ := I.loc
        have hvis : Vis X.env.scope z := (L.free _ (PySem.mem_of_lookup k) rfl).elim (fun k => .inr (.inl k)) (fun k => .inr (.inr k))
        obtain ⟨w', r, q⟩ := hl i z v' e1 e2 hvis
        obtain ⟨c2, h2⟩ := look k
        refine ⟨w', r, .inr ⟨.inr k, c2, h2, ?_⟩⟩
        have c1 := cm h2
        rcases q with ⟨k', _⟩ | ⟨_, c3, e', zz⟩
        · have k' : X.env.scope.names.lookup z = some .local := k'
          rcases L.free _ (PySem.mem_of_lookup k) rfl with k2 | k2 <;> rw [show X.env.scope.names.lookup z = _ from k2] at k' <;> cases k'
        · rw [c1] at e'
          cases e'
          exact cellK (I.freeC z _ c1) zz
    · have hi2 : i = σ.length := by
        have := (List.getElem?_eq_some_iff.mp e2).1
        rw [List.length_append, List.length_singleton] at this
        omega
      rw [hi2, lN, List.getElem?_append_right (Nat.le_refl _), Nat.sub_self] at e1
      rw [hi2, List.getElem?_append_right (Nat.le_refl _), Nat.sub_self] at e2
      obtain rfl : y = z := Option.some.inj e1
      obtain rfl : v = v' := Option.some.inj (Option.some.inj e2)
      refine ⟨u, rv, .inl ⟨L.par, ?_⟩⟩
      show ([(y, u)] : List (Str × Value)).reverse.lookup y = some u
      simp
  · obtain ⟨w', z⟩ := I.cell y c (cm e)
    exact ⟨w', cellK (I.freeC y c (cm e)) z⟩
  · obtain ⟨v, o, ho, hd⟩ := I.cell y c (cm e)
    exact un.free c o ho (I.freeC y c (cm e)) (by simp)
  · show (σ ++ [some v]).length = (X.N ++ [y]).length
    rw [List.length_append, List.length_append, I.len]
    rfl
/-- a(e), in the def that got the lambda -/
theorem pe_act1 {CXg : CXT} {Eg : XK} {Ng : List Str} {qg : Str} {sg : Scope} {g f c' : Addr} {cdg pm ctv : Value} {params : Arguments} {body arg : Expr} {scope : Scope} {k i : Nat} {a y : Str} {pn : List (Addr × Obj)} {xe : Value → Shared → Prop} {tb targ : TE} {p1 p2 : Pos}
    (I : Inv X pins σ H s) (L : LamS1 X.env.scope scope y) (hy : y ∉ X.N) (hf : s.heap.get? f = some (PySem.W.kla_obj "<lambda>" (X.env.qual ++ "<lambda>") params body scope (cloFrom X.env.cells scope.names []) pm c' ctv)) (hfn : H f = none) (hfr : f ∉ frs X.stack)
    (hbind : ∀ u, bindArgs (PySem.W.kla_fn "<lambda>" (X.env.qual ++ "<lambda>") params body scope (cloFrom X.env.cells scope.names []) pm (.ref c') ctv) ⟨[u], []⟩ = pure [(y, u)])
    (hr : Room (k + 1) (X.A.deeper (envOfC qg sg s.heap.objs.size g cdg)))
    (hbody : ∀ (A : Around) (outer : List Env) (s : Shared) (H : Hp), Room k (A.deeper (lamEnv X scope s.heap.objs.size f c')) → PE (lamCx1 X A outer s H C8.E0 scope f c' y) body tb)
    (hN : Ng[i]? = some a) (hv : Vis sg a) (ha : PE ((cxOf CXg X.prog X.w X.K X.mg X.base Ng qg sg g cdg X.A X.stack s H Eg).tr pn xe) arg targ)
    (he : starEach [arg] (envOfC qg sg s.heap.objs.size g cdg) = (false, eval arg (envOfC qg sg s.heap.objs.size g cdg)) :: starEach [] (envOfC qg sg s.heap.objs.size g cdg) := by rfl)
    (hd : (a == ("__debug__" : Str)) = false := by decide) (hcd : (a == ("__classdict__" : Str)) = false := by decide) :
    PE ((cxOf CXg X.prog X.w X.K X.mg X.base Ng qg sg g cdg X.A X.stack s H Eg).tr pn xe) (.Call (.Name a p1) [arg] [] p2)
      (fun σZ HZ Q => σZ[i]? = some (some (.ref f)) ∧ targ σZ HZ fun v H1 => H1 c' = some (CodeO c' (X.env.qual ++ "<lambda>")) ∧ tb (σ ++ [some v]) H1 Q) := by
  refine ⟨fun pinsZ sZ σZ HZ Q IZ h => ?_⟩
  obtain ⟨hs, ht⟩ := h
  refine wpAny_Call_Name_kw (thn ((pe_var (pos := p1) (i := i) hN hv hd hcd).run pinsZ sZ σZ HZ (fun v H1 => v = .ref f ∧ H1 = HZ) IZ ⟨.ref f, hs, rfl, rfl⟩) fun u s0 ⟨v0, H0, I0, r0, q0⟩ => ?_)
  obtain ⟨ev, eH⟩ := q0
  subst ev
  rw [eH] at I0
  obtain rfl : u = Value.ref f := r0
  have of0 : s0.heap.get? f = some (PySem.W.kla_obj "<lambda>" (X.env.qual ++ "<lambda>") params body scope (cloFrom X.env.cells scope.names []) pm c' ctv) := I0.base.keep f _ hf hfn hfr (fun z => nomatch (show f ∈ ([] : List Addr) from z))
  refine PySem.W.callWith_F ⟨_, _, _, _, of0⟩ (thn ((pa_cons ha pa_nil (hs := he)).run p2 pinsZ s0 σZ HZ (fun vs H1 => match vs with
    | [v] => H1 c' = some (CodeO c' (X.env.qual ++ "<lambda>")) ∧ tb (σ ++ [some v]) H1 Q
    | _ => False) I0 ht) fun us s1 ⟨vs, H1, I1, r1, q1⟩ => ?_) he rfl
  obtain ⟨v, rfl⟩ : ∃ v, vs = [v] := match vs, q1 with
    | [v], _ => ⟨v, rfl⟩
  obtain ⟨hc, ht⟩ := q1
  obtain ⟨u, rfl, rv⟩ := vals1 r1
  have of1 : s1.heap.get? f = some (PySem.W.kla_obj "<lambda>" (X.env.qual ++ "<lambda>") params body scope (cloFrom X.env.cells scope.names []) pm c' ctv) := I1.base.keep f _ hf hfn hfr (fun z => nomatch (show f ∈ ([] : List Addr) from z))
  refine ⟨⟨_, _, _, _, of1⟩, ?_⟩
  have un : Un (frs X.stack) [] H H1 s.heap s1.heap := I1.base
  obtain ⟨⟨oc, vs, t, hoc, hdc, hvc⟩, _, _⟩ := I1.hok c' _ hc
  have rc : codeAny (model X.prog X.w) (X.A.deeper (envOfC qg sg s.heap.objs.size g cdg)) (.call (.ref f) ⟨[u], []⟩) (CR (L2.CX X.prog X.w) (envOfC qg sg s.heap.objs.size g cdg :: X.stack) X.prog X.w H1 s1 Q C8.E0) s1 := by
    refine PySem.W.kla_callFunE hr.depth of1 rfl L.co L.gen rfl ⟨c', oc, vs, t, rfl, hoc, hdc, hvc⟩ ?_
    rw [hbind]
    refine wpAny_pure (wpAny_newFunctionEnv (fun y hy => (L.own y hy).1) (fun z hz => by rw [List.mem_singleton.mp hz]; exact L.par) (fun h₁ hns hsb => ⟨I1.nolimit.fresh _ hsb, ?_⟩) L.kind)
    show codeAny _ _ (.expr body (lamEnv X scope s1.heap.objs.size f c')) _ _
    have kp : ∀ b o, s1.heap.get? b = some o → h₁.get? b = some o := fun b o e => hsb.extBut b o (Nat.ne_of_lt (Heap.lt_size e)) (Heap.get?_push_of_some _ e)
    have J : Inv (lamCx1 X (X.A.deeper (envOfC qg sg s.heap.objs.size g cdg)) (envOfC qg sg s.heap.objs.size g cdg :: X.stack) s1 H1 C8.E0 scope f c' y) [] (σ ++ [some v]) H1 { s1 with heap := h₁, toks := s1.toks + ([(y, u)] : List (Str × Value)).length } :=
      lam_start1 I L hy I1.env0 hr.hd un rv hns kp
    refine PySem.W.kla_codeExpr (wpAny_mono ((hbody _ _ s1 H1 (hr.deeper _)).run [] _ _ H1 Q J ht) (fun v s' hq => ?_) fun e s' hq => hq)
    obtain ⟨w', H', J', rv, q⟩ := hq
    exact ⟨w', H', J'.os, J'.bare, J'.base, J'.hok, rv, q⟩
  refine wpAny_call (codeAny_mono rc fun r s' hq => ?_)
  cases r with
  | error e =>
    obtain ⟨_, _, _, _, _, _, _, _, _, _, _, _, hE⟩ := hq
    exact hE.elim
  | ok fl =>
    cases fl with
    | ret u => exact I1.after hq
    | next => exact False.elim hq
    | brk => exact False.elim hq
    | cont => exact False.elim hq
/-- the def that calls what it got as its second argument; TT: what it makes of the lambda's reading -/
def Gives3 (X : Cx) (Ng : List Str) (x : Str) (sg : Scope) (g : Addr) (cdg : Value) (bg : List Stmt) (a : Str) (i : Nat) (q : Str) (k : Nat) (TT : V → V → (V → Hp → VK → Prop) → Hp → VK → XK → Prop) : Prop :=
  ∀ (f c' : Addr) (s : Shared) (H : Hp) (Q : VK) (E : XK) (v0 v2 : V) (tl : V → Hp → VK → Prop),
    (∀ (pn : List (Addr × Obj)) (xe : Value → Shared → Prop) (arg : Expr) (targ : TE) (p1 p2 : Pos), PE ((cxOf (L2.CX X.prog X.w) X.prog X.w X.K X.mg X.base Ng x sg g cdg X.A X.stack s H E).tr pn xe) arg targ →
      starEach [arg] (envOfC x sg s.heap.objs.size g cdg) = (false, eval arg (envOfC x sg s.heap.objs.size g cdg)) :: starEach [] (envOfC x sg s.heap.objs.size g cdg) →
      PE ((cxOf (L2.CX X.prog X.w) X.prog X.w X.K X.mg X.base Ng x sg g cdg X.A X.stack s H E).tr pn xe) (.Call (.Name a p1) [arg] [] p2) (fun σZ HZ Q => σZ[i]? = some (some (.ref f)) ∧ targ σZ HZ fun v H1 => H1 c' = some (CodeO c' q) ∧ tl v H1 Q)) →
    Room (k + 1) (X.A.deeper (envOfC x sg s.heap.objs.size g cdg)) → H c' = some (CodeO c' q) → TT v0 v2 tl H Q E →
    ∃ t, PSs (cxOf (L2.CX X.prog X.w) X.prog X.w X.K X.mg X.base Ng x sg g cdg X.A X.stack s H E) bg t ∧ t { nx := fun _ H' => Q .non H', rt := Q } (L2.start Ng [v0, .ref f, v2]) H
def tLam3 (T : List (Addr × Str)) (TT : V → V → (V → Hp → VK → Prop) → Hp → VK → XK → Prop) (W : WX) (te0 tb : TE) (j : Nat) : TE := fun σ H Q => te0 σ H fun v0 H0 => Tabs T H0 ∧ ∃ v2, σ[j]? = some (some v2) ∧ ∀ H1, ExtN H0 H1 → Tabs T H1 → TT v0 v2 (fun v H' Q' => tb (σ ++ [some v]) H' Q') H1 Q (WE W σ)
/-- x(e0, lambda y: body, z) -/
theorem pe_lamcall3 {T : List (Addr × Str)} {TT : V → V → (V → Hp → VK → Prop) → Hp → VK → XK → Prop} {x a a0 a2 y z : Str} {g c P : Addr} {k i j : Nat} {pg : Arguments} {bg : List Stmt} {sg : Scope} {dV kV doc pm cdv ct oc : Value} {an od : Option Addr} {osl : Array (Option Value)} {Ng : List Str}
    {params : Arguments} {body e0 : Expr} {scope : Scope} {tb te0 : TE} {W : WX} {p lpos pos zp : Pos} (hg : Gl X x) (hm : X.mg x = some (.ref g)) (hk : PySem.W.keepIn X.K (.ref g) = true)
    (lk : X.K.lookup g = some ⟨oc, od, .func (PySem.W.fnOf x x pg bg sg dV kV doc pm an cdv ct), osl⟩) (hcg : PySem.W.codeIn X.K cdv x = true) (hb : L2.Binds X.K (PySem.W.fnOf x x pg bg sg dV kV doc pm an cdv ct) [a0, a, a2] []) (Sg : FnScope Ng [a0, a, a2] sg) (hNg : Ng[i]? = some a) (hva : Vis sg a)
    (hG : Gives3 X Ng x sg g cdv bg a i (X.env.qual ++ "<lambda>") k TT)
    (TB : TabB X.base X.mg c P) (hcode : X.env.code = .ref c) (hmT : (P, X.env.qual ++ "<lambda>") ∈ T) (hu : ∀ p ∈ T, p.1 = P → p.2 = X.env.qual ++ "<lambda>") (hr : Room (k + 2) X.A) (L : LamS1 X.env.scope scope y) (hyN : y ∉ X.N) (hdef : defaultsOf params X.env = ([], []))
    (hbind : ∀ (q : Str) (cl : List (Str × Addr)) (pm cv ctv u : Value), bindArgs (PySem.W.kla_fn "<lambda>" q params body scope cl pm cv ctv) ⟨[u], []⟩ = pure [(y, u)])
    (hbody : ∀ (A : Around) (outer : List Env) (s : Shared) (H : Hp) (f c' : Addr), Room k (A.deeper (lamEnv X scope s.heap.objs.size f c')) → PE (lamCx1 X A outer s H C8.E0 scope f c' y) body tb)
    (h0 : PE X e0 te0) (hz : X.N[j]? = some z) (hvz : Vis X.env.scope z) (tk : Takes X W)
    (he0 : starEach [e0] X.env = (false, eval e0 X.env) :: starEach [] X.env := by rfl)
    (he : starEach [e0, .Lambda params body scope lpos, .Name z zp] X.env = (false, eval e0 X.env) :: starEach [.Lambda params body scope lpos, .Name z zp] X.env := by rfl)
    (hdb : (x == ("__debug__" : Str)) = false := by decide) (hd : (a == ("__debug__" : Str)) = false := by decide) (hcd : (a == ("__classdict__" : Str)) = false := by decide) (hd2 : (z == ("__debug__" : Str)) = false := by decide) (hcd2 : (z == ("__classdict__" : Str)) = false := by decide) :
    PE X (.Call (.Name x p) [e0, .Lambda params body scope lpos, .Name z zp] [] pos) (tLam3 T TT W te0 tb j) := by
  refine ⟨fun pins s σ H Q I h => ?_⟩
  refine wpAny_Call_Name_kw (ld_glob I hg hm ?_ hdb)
  refine PySem.W.callWith_K (h₀ := X.base) I.ok.mod.kin hk ?_ he (by rfl)
  rw [he]
  show wpAny _ _ (spliced ((false, eval e0 X.env) :: (false, eval (.Lambda params body scope lpos) X.env) :: (false, eval (.Name z zp) X.env) :: backTo pos (starEach [] X.env))) _ _ s
  refine Calls.spliced_cons (thn (h0.run pins s σ H _ I h) fun u0 s0 ⟨v0, H0, I0, r0, T0, v2, hv2, q⟩ => ?_)
  refine Calls.spliced_cons (lam_make2 I0 TB hcode hmT hu T0 hdef (L.has I.ok) fun f c' pm' ctv H1 s1 I1 eN T1 hf hfn hfr hco => ?_)
  have hN : ∃ m u2, s1.heap.Ns X.env.locals m ∧ RelV v2 u2 ∧ Look X.env s1.heap m z u2 := by
    obtain ⟨m, hn, hl⟩ := I1.loc
    obtain ⟨u2, r2, l2⟩ := hl j z v2 hz hv2 hvz
    exact ⟨m, u2, hn, r2, l2⟩
  obtain ⟨m, u2, hn, r2, l2⟩ := hN
  have fin : wpAny (model X.prog X.w) X.A (call (.ref g) ([] ++ [u0, .ref f, u2])) (EP X pins σ Q) X.xe s1 := by
    have rc : codeAny (model X.prog X.w) X.A (.call (.ref g) ⟨[u0, .ref f, u2], []⟩) (CR (L2.CX X.prog X.w) X.stack X.prog X.w H1 s1 Q (WE W σ)) s1 := by
      refine run_ofS (N := Ng) (ps := [a0, a, a2]) (us := [u0, .ref f, u2]) (vs := [v0, .ref f, v2]) lk hcg Sg hr I1.env0 (hb s1 [u0, .ref f, u2] I1.kIn rfl) (.cons r0 (.cons rfl (.cons r2 .nil))) rfl fun hr' => ?_
      exact hG f c' s1 H1 Q (WE W σ) v0 v2 (fun v H' Q' => tb (σ ++ [some v]) H' Q') (fun pn xe arg targ p1 p2 ha hst => pe_act1 I1 L hyN hf hfn hfr (hbind _ _ _ _ _) hr' (fun A outer s H hr2 => hbody A outer s H f c' hr2) hNg hva ha hst hd hcd) hr' hco (q H1 eN T1)
    have hx : PassesAt (L2.CX X.prog X.w) X σ (WE W σ) := passAt tk σ
    refine wpAny_call (codeAny_mono rc fun r s2 hq => ?_)
    cases r with
    | error e => exact hx pins H1 s1 e s2 I1 hq
    | ok fl =>
      cases fl with
      | ret u => exact I1.after hq
      | next => exact False.elim hq
      | brk => exact False.elim hq
      | cont => exact False.elim hq
  refine Calls.spliced_cons ?_
  have fin2 : ∀ {E : Value → Shared → Prop}, wpAny (model X.prog X.w) X.A (spliced (backTo pos (starEach [] X.env))) (fun vs s' => X.K.In s'.heap ∧ wpAny (model X.prog X.w) X.A (call (.ref g) ([] ++ ([u0, .ref f, u2] ++ vs))) (EP X pins σ Q) X.xe s') E s1 := Calls.spliced_nil ⟨I1.kIn, fin⟩
  rcases l2 with ⟨hk, hm⟩ | ⟨hk, c, hc, hcell⟩
  · exact wpAny_Name (wpAny_loadName_local I1.ok.kind hk hn hm fin2) hd2
  · rcases hk with hk | hk
    · exact wpAny_Name (wpAny_loadName_cell I1.ok.kind hk hc hcell fin2) hd2
    · exact wpAny_Name (wpAny_loadName_free I1.ok.kind hk hc hcell fin2 hcd2) hd2
end
end Vf

set_option maxRecDepth 100000
set_option maxHeartbeats 8000000
namespace Vf
open PySem PySem.Spec PyProof.Rows L2
theorem keyW_map {α : Type} {K : PySem.W.Frag} {H : Hp} {a : Addr} {l : List α} {f : α → V} {g : α → NK} (h : SqT K H a (l.map f)) (hp : ∀ x ∈ l, KeyW K H (f x) (g x)) : KeyW K H (.ref a) (.tup (l.map g)) := by
  refine .tup h (by rw [List.length_map, List.length_map]) fun i x k h1 h2 => ?_
  rw [List.getElem?_map] at h1 h2
  cases e : l[i]? with
  | none =>
    rw [e] at h1
    cases h1
  | some y =>
    rw [e] at h1 h2
    obtain rfl : f y = x := Option.some.inj h1
    obtain rfl : g y = k := Option.some.inj h2
    exact hp y (List.mem_of_getElem? e)
theorem keyW_two {K : PySem.W.Frag} {H : Hp} {a : Addr} {x y : V} {k j : NK} (h : SqT K H a [x, y]) (h1 : KeyW K H x k) (h2 : KeyW K H y j) : KeyW K H (.ref a) (.tup [k, j]) := by
  refine .tup h rfl fun i z m e1 e2 => ?_
  match i, e1, e2 with
  | 0, e1, e2 =>
    obtain rfl : x = z := Option.some.inj e1
    obtain rfl : k = m := Option.some.inj e2
    exact h1
  | 1, e1, e2 =>
    obtain rfl : y = z := Option.some.inj e1
    obtain rfl : j = m := Option.some.inj e2
    exact h2
  | i + 2, e1, _ => exact absurd e1 (by simp)
theorem stK_low (pl : List (Option Nat)) (held : List Ln) : (stK pl held).depth ≤ 8 := by
  have d0 : ∀ i : Int, (PySem.NestedKey.num i).depth ≤ 1 := fun i => by rw [PySem.NestedKey.depth] <;> exact Nat.zero_le _
  have d1 : ∀ o, (plK o).depth ≤ 1 := fun o => by
    cases o with
    | none => rw [plK, PySem.NestedKey.depth] <;> exact Nat.zero_le _
    | some i => exact d0 _
  have d2 : ∀ l, (lnK l).depth ≤ 3 := fun l => depth_tup fun k hk => by
    rcases List.mem_cons.mp hk with rfl | hk
    · exact depth_map fun n => d0 _
    · rw [List.mem_singleton.mp hk]
      exact Nat.le_trans (d0 _) (by decide)
  have : (stK pl held).depth ≤ 5 := depth_tup fun k hk => by
    rcases List.mem_cons.mp hk with rfl | hk
    · exact Nat.le_trans (depth_map d1) (by decide)
    · rw [List.mem_singleton.mp hk]
      exact depth_map d2
  omega
theorem StAt.keyW {K : PySem.W.Frag} {H : Hp} {a : Addr} {pl : List (Option Nat)} {held : List Ln} (h : StAt K H a pl held) : NestW K H a (stK pl held) := by
  refine ⟨?_, stK_low pl held⟩
  obtain ⟨t, u, h1, h2, ⟨qs, h3, h4, h5⟩⟩ := h
  refine keyW_two h1 (keyW_map h2 fun o _ => ?_) ?_
  · cases o with
    | none => exact .non
    | some i => exact .int (i : Int)
  · rw [← h5, List.map_map]
    refine keyW_map h3 fun q hq => ?_
    obtain ⟨t2, e1, e2⟩ := h4 q hq
    exact keyW_two e1 (keyW_map e2 fun n _ => .int (n : Int)) (.bl q.2.2)
theorem tupsW_same {K : PySem.W.Frag} {H H' : Hp} (s : Same H H') : TupsW K H H' := fun _ _ h => Vf.SqT.same h s
theorem tupsW_but {K : PySem.W.Frag} {H H' : Hp} {D : Addr} {acc : List V} (hD : H D = some (.lst acc)) (b : But D H H') : TupsW K H H' := fun _ _ h => sqT_but h b hD
theorem TupsW.trans {K : PySem.W.Frag} {H H1 H2 : Hp} (a : TupsW K H H1) (b : TupsW K H1 H2) : TupsW K H H2 := fun c ys h => b c ys (a c ys h)
theorem StAt.tupsW {K : PySem.W.Frag} {H H' : Hp} {a : Addr} {pl : List (Option Nat)} {held : List Ln} (h : StAt K H a pl held) (s : TupsW K H H') : StAt K H' a pl held := by
  obtain ⟨t, u, h1, h2, ⟨qs, h3, h4, h5⟩⟩ := h
  refine ⟨t, u, s _ _ h1, s _ _ h2, ⟨qs, s _ _ h3, fun q hq => ?_, h5⟩⟩
  obtain ⟨t2, e1, e2⟩ := h4 q hq
  exact ⟨t2, s _ _ e1, s _ _ e2⟩
/-- keys that hold a state and all that steps lead to from them -/
def ClosedF (ls : List (List Str)) (es : List (List Nd)) (k0 : NK) (S : List NK) : Prop := k0 ∈ S ∧ ∀ pl held, OkSt es ls pl held → stK pl held ∈ S → ∀ s ∈ stepsM ls es pl held, stK s.2.2.2.1 s.2.2.2.2 ∈ S
/-- thread, target, moves, number of the state behind -/
abbrev RowE := Nat × Option Nat × Nat × Nat
abbrev keyW (q : Wt) : NK := stK q.2.1 q.2.2
/-- a row of a graph, of such data -/
structure RowAt (H : Hp) (r : Addr) (es : List (Addr × RowE)) : Prop where
  at_ : H r = some (.lst (es.map fun e => V.ref e.1))
  each : ∀ e ∈ es, H e.1 = some (.tup [.int (e.2.1 : Int), plV e.2.2.1, .int (e.2.2.2.1 : Int), .int (e.2.2.2.2 : Int)])
/-- the data of a row are the steps -/
def RowIs (ss : List Wt) (steps : List Step) (row : List RowE) : Prop := row.length = steps.length ∧ ∀ (i : Nat) (s : Step) (e : RowE), steps[i]? = some s → row[i]? = some e → e.1 = s.1 ∧ e.2.1 = s.2.1 ∧ e.2.2.1 = s.2.2.1 ∧ ∃ y, ss[e.2.2.2]? = some y ∧ keyW y = stK s.2.2.2.1 s.2.2.2.2
theorem RowIs.more {ss ss' : List Wt} {steps : List Step} {row : List RowE} (h : RowIs ss steps row) : RowIs (ss ++ ss') steps row := ⟨h.1, fun i s e hs he => by
  obtain ⟨h1, h2, h3, y, h4, h5⟩ := h.2 i s e hs he
  exact ⟨h1, h2, h3, y, by rw [List.getElem?_append_left (List.getElem?_eq_some_iff.mp h4).1]; exact h4, h5⟩⟩
abbrev Rw := Addr × List (Addr × RowE)
/-- numbers by states -/
def kvsOf (ss : List Wt) : List (NK × V) := ss.zipIdx.map fun p => (keyW p.1, V.int (p.2 : Int))
theorem kvsOf_app (ss : List Wt) (q : Wt) : kvsOf (ss ++ [q]) = kvsOf ss ++ [(keyW q, V.int (ss.length : Int))] := by
  unfold kvsOf
  rw [List.zipIdx_append, List.map_append]
  simp
theorem kvsOf_keys (ss : List Wt) : (kvsOf ss).map Prod.fst = ss.map keyW := by
  unfold kvsOf
  rw [List.map_map]
  show ss.zipIdx.map (keyW ∘ Prod.fst) = _
  rw [← List.map_map, List.zipIdx_map_fst]
theorem kvsOf_val {ss : List Wt} {k : NK} {v : V} (h : valV (kvsOf ss) k = some v) : ∃ (j : Nat) (y : Wt), v = .int (j : Int) ∧ ss[j]? = some y ∧ keyW y = k := by
  obtain ⟨p, hp, e1, e2⟩ : ∃ p ∈ kvsOf ss, p.1 = k ∧ p.2 = v := by
    unfold valV at h
    obtain ⟨p, hp, e⟩ := Option.map_eq_some_iff.mp h
    exact ⟨p, List.mem_of_find?_eq_some hp, by simpa using List.find?_some hp, e⟩
  unfold kvsOf at hp
  obtain ⟨q, hq, rfl⟩ := List.mem_map.mp hp
  obtain ⟨y, j⟩ := q
  have := List.mem_zipIdx' hq
  exact ⟨j, y, e2.symm, by rw [List.getElem?_eq_getElem this.1]; exact congrArg some this.2.symm, e1⟩
/-- what has been found -/
structure EI (P : Program) (w : World) (K : PySem.W.Frag) (H H' : Hp) (SL D TL : Addr) (es : List (List Nd)) (ls : List (List Str)) (k0 : NK) (ss : List Wt) (xs : List (NK × Addr × Value)) (rows : List Rw) : Prop where
  b : Same H H'
  sl : H' SL = some (.lst (ss.map fun q => V.ref q.1))
  st : ∀ q ∈ ss, StAt K H' q.1 q.2.1 q.2.2 ∧ OkSt es ls q.2.1 q.2.2
  nd : NDw P w K H' D (kvsOf ss) xs
  tl : H' TL = some (.lst (rows.map fun r => V.ref r.1))
  rw : ∀ r ∈ rows, RowAt H' r.1 r.2 ∧ r.1 ≠ SL ∧ r.1 ≠ TL
  ri : rows.length ≤ ss.length ∧ ∀ (i : Nat) (q : Wt) (r : Rw), ss[i]? = some q → rows[i]? = some r → RowIs ss (stepsM ls es q.2.1 q.2.2) (r.2.map Prod.snd)
  nk : (ss.map keyW).Nodup
  cl : ∀ S, ClosedF ls es k0 S → ∀ q ∈ ss, keyW q ∈ S
  hd : ∃ q, ss[0]? = some q ∧ keyW q = k0
  ne : SL ≠ TL
section
variable {P : Program} {w : World} {K : PySem.W.Frag} {H H' H'' : Hp} {SL D TL : Addr} {es : List (List Nd)} {ls : List (List Str)} {k0 : NK} {ss : List Wt} {xs : List (NK × Addr × Value)} {rows : List Rw}
theorem RowAt.same {r : Addr} {es : List (Addr × RowE)} (h : RowAt H r es) (s : Same H H') : RowAt H' r es := ⟨s _ _ h.at_, fun e he => s _ _ (h.each e he)⟩
theorem EI.same (g : EI P w K H H' SL D TL es ls k0 ss xs rows) (s : Same H' H'') : EI P w K H H'' SL D TL es ls k0 ss xs rows :=
  ⟨g.b.trans s, s _ _ g.sl, fun q hq => ⟨(g.st q hq).1.same s, (g.st q hq).2⟩, g.nd.tups ((s _ _ g.nd.at_).trans g.nd.at_.symm) (tupsW_same s), s _ _ g.tl, fun r hr => ⟨(g.rw r hr).1.same s, (g.rw r hr).2⟩, g.ri, g.nk, g.cl, g.hd, g.ne⟩
/-- a list that is no part of it is written -/
theorem EI.off {x : Addr} {acc : List V} {o : HO} (g : EI P w K H H' SL D TL es ls k0 ss xs rows) (hx : H' x = some (.lst acc)) (h0 : H x = none) (h1 : x ≠ SL) (h2 : x ≠ TL) (h3 : ∀ r ∈ rows, x ≠ r.1) : EI P w K H (upd H' x o) SL D TL es ls k0 ss xs rows := by
  have t : TupsW K H' (upd H' x o) := tupsW_but hx ((But.refl x H').put)
  refine ⟨same_upd g.b h0, by rw [upd_ne h1.symm]; exact g.sl, fun q hq => ⟨(g.st q hq).1.tupsW t, (g.st q hq).2⟩, g.nd.tups (by rw [upd_ne (ne_of g.nd.at_ hx (fun z => ndo_lst z))]) t, by rw [upd_ne h2.symm]; exact g.tl, fun r hr => ⟨⟨by rw [upd_ne (h3 r hr).symm]; exact (g.rw r hr).1.at_, fun e he => ?_⟩, (g.rw r hr).2⟩, g.ri, g.nk, g.cl, g.hd, g.ne⟩
  have := (g.rw r hr).1.each e he
  rw [upd_ne (ne_of this hx (by intro z; cases z))]
  exact this
/-- a state more -/
theorem EI.put {x : Addr} {pl : List (Option Nat)} {held : List Ln} {u : HO} {z : Value} (g : EI P w K H H' SL D TL es ls k0 ss xs rows) (hD : H D = none) (hS : H SL = none) (hx : StAt K H' x pl held) (ok : OkSt es ls pl held) (hno : valV (kvsOf ss) (stK pl held) = none) (hcl : ∀ S, ClosedF ls es k0 S → stK pl held ∈ S)
    (d : NDw P w K (upd H' D u) D (kvsOf ss ++ [(stK pl held, V.int (ss.length : Int))]) (xs ++ [(stK pl held, x, z)])) :
    EI P w K H (upd (upd H' D u) SL (.lst (ss.map (fun q => V.ref q.1) ++ [.ref x]))) SL D TL es ls k0 (ss ++ [(x, pl, held)]) (xs ++ [(stK pl held, x, z)]) rows := by
  have dl : ∀ {y : Addr} {ys : List V}, H' y = some (.lst ys) → y ≠ D := fun e q => by
    rw [q, g.nd.at_] at e
    exact ndo_lst (Option.some.inj e)
  have sl1 : (upd H' D u) SL = some (.lst (ss.map fun q => V.ref q.1)) := by
    rw [upd_ne (dl g.sl)]
    exact g.sl
  have t1 : TupsW K H' (upd H' D u) := tupsW_ndo g.nd.at_
  have t2 : TupsW K (upd H' D u) (upd (upd H' D u) SL (.lst (ss.map (fun q => V.ref q.1) ++ [.ref x]))) := tupsW_but sl1 ((But.refl SL _).put)
  have t := t1.trans t2
  refine ⟨same_upd (same_upd g.b hD) hS, by rw [upd_same, List.map_append]; rfl, fun q hq => ?_, ?_, by rw [upd_ne g.ne.symm, upd_ne (dl g.tl)]; exact g.tl, fun r hr => ⟨⟨?_, fun e he => ?_⟩, (g.rw r hr).2⟩, ⟨by have := g.ri.1; rw [List.length_append]; omega, fun i q r hq hr => ?_⟩, ?_, fun S hS q hq => ?_, ?_, g.ne⟩
  · rcases List.mem_append.mp hq with hq | hq
    · exact ⟨(g.st q hq).1.tupsW t, (g.st q hq).2⟩
    · rw [List.mem_singleton.mp hq]
      exact ⟨hx.tupsW t, ok⟩
  · rw [kvsOf_app]
    exact d.tups (upd_ne (dl g.sl).symm) t2
  · rw [upd_ne (g.rw r hr).2.1, upd_ne (dl (g.rw r hr).1.at_)]
    exact (g.rw r hr).1.at_
  · have h1 := (g.rw r hr).1.each e he
    have h2 : (upd H' D u) e.1 = some _ := (upd_ne (ne_of h1 g.nd.at_ (fun z => ndo_ne z.symm))).trans h1
    rw [upd_ne (ne_of h2 sl1 (by intro z; cases z))]
    exact h2
  · have hi := (List.getElem?_eq_some_iff.mp hr).1
    rw [List.getElem?_append_left (by have := g.ri.1; omega)] at hq
    exact (g.ri.2 i q r hq hr).more
  · rw [List.map_append]
    refine List.nodup_append.mpr ⟨g.nk, by simp, fun a ha b hb e => ?_⟩
    rw [show b = stK pl held from List.mem_singleton.mp hb, ← kvsOf_keys] at *
    obtain ⟨p, hp, rfl⟩ := List.mem_map.mp ha
    have := valV_any (kvs := kvsOf ss) (k := stK pl held)
    rw [hno] at this
    exact Bool.false_ne_true (this.symm.trans (List.any_eq_true.mpr ⟨p, hp, decide_eq_true e⟩))
  · rcases List.mem_append.mp hq with hq | hq
    · exact g.cl S hS q hq
    · rw [List.mem_singleton.mp hq]
      exact hcl S hS
  · obtain ⟨q, h1, h2⟩ := g.hd
    exact ⟨q, by rw [List.getElem?_append_left (List.getElem?_eq_some_iff.mp h1).1]; exact h1, h2⟩
/-- a row more -/
theorem EI.row {r : Rw} {q : Wt} (g : EI P w K H H' SL D TL es ls k0 ss xs rows) (hT : H TL = none) (hr : RowAt H' r.1 r.2) (h1 : r.1 ≠ SL) (h2 : r.1 ≠ TL) (hq : ss[rows.length]? = some q) (hi : RowIs ss (stepsM ls es q.2.1 q.2.2) (r.2.map Prod.snd)) :
    EI P w K H (upd H' TL (.lst (rows.map (fun r => V.ref r.1) ++ [.ref r.1]))) SL D TL es ls k0 ss xs (rows ++ [r]) := by
  have t : TupsW K H' (upd H' TL (.lst (rows.map (fun r => V.ref r.1) ++ [.ref r.1]))) := tupsW_but g.tl ((But.refl TL H').put)
  have keepR : ∀ r' : Rw, RowAt H' r'.1 r'.2 → r'.1 ≠ TL → RowAt (upd H' TL (.lst (rows.map (fun r => V.ref r.1) ++ [.ref r.1]))) r'.1 r'.2 := fun r' h hn => ⟨by rw [upd_ne hn]; exact h.at_, fun e he => by
    have := h.each e he
    rw [upd_ne (ne_of this g.tl (by intro z; cases z))]
    exact this⟩
  refine ⟨same_upd g.b hT, by rw [upd_ne g.ne]; exact g.sl, fun q hq => ⟨(g.st q hq).1.tupsW t, (g.st q hq).2⟩, g.nd.tups (by rw [upd_ne (ne_of g.nd.at_ g.tl (fun z => ndo_lst z))]) t, by rw [upd_same, List.map_append]; rfl, fun r' hr' => ?_, ⟨?_, fun i q' r' hq' hr' => ?_⟩, g.nk, g.cl, g.hd, g.ne⟩
  · rcases List.mem_append.mp hr' with hr' | hr'
    · exact ⟨keepR r' (g.rw r' hr').1 (g.rw r' hr').2.2, (g.rw r' hr').2⟩
    · rw [List.mem_singleton.mp hr']
      exact ⟨keepR r hr h2, h1, h2⟩
  · have := (List.getElem?_eq_some_iff.mp hq).1
    rw [List.length_append, List.length_singleton]
    omega
  · by_cases hi2 : i < rows.length
    · rw [List.getElem?_append_left hi2] at hr'
      exact g.ri.2 i q' r' hq' hr'
    · have hl := (List.getElem?_eq_some_iff.mp hr').1
      rw [List.length_append, List.length_singleton] at hl
      obtain rfl : i = rows.length := by omega
      rw [List.getElem?_append_right (Nat.le_refl _), Nat.sub_self] at hr'
      obtain rfl := Option.some.inj hr'
      obtain rfl := Option.some.inj (hq.symm.trans hq')
      exact hi
end
end Vf

set_option maxRecDepth 100000
set_option maxHeartbeats 4000000
namespace Vf
open PySem PySem.Spec PyProof.Rows L2
abbrev Clause := Value × Option Nat × (Addr → Value → Option Addr → TS)
/-- the ends of a suite whose name is forgotten behind it -/
abbrev endsN (i : Nat) (D : Ends) : Ends := { nx := fun σ' H' => D.nx (σ'.set i none) H', rt := D.rt, bk := fun σ' H' => D.bk (σ'.set i none) H', ct := fun σ' H' => D.ct (σ'.set i none) H' }
def wManyN (K : PySem.W.Frag) (Wout : WX) (D : Ends) : List Clause → WX
  | [] => Wout
  | (c, none, ts) :: r => fun cls d σ H => ∃ b, PySem.W.exmOne K cls c = some b ∧ (b = true → ∀ a, H a = none → ts a cls d D σ H) ∧ (b = false → wManyN K Wout D r cls d σ H)
  | (c, some i, ts) :: r => fun cls d σ H => ∃ b, PySem.W.exmOne K cls c = some b ∧ (b = true → ∀ a, H a = none → ts a cls d (endsN i D) (σ.set i (some (.ref a))) H) ∧ (b = false → wManyN K Wout D r cls d σ H)
inductive HdsN (X : Cx) : List ExceptHandler → List Clause → Prop
  | nil : HdsN X [] []
  | plain {x : Str} {c : Value} {ts : Addr → Value → Option Addr → TS} {b₀ : Stmt} {suite : List Stmt} {np pos' : Pos} {hds : List ExceptHandler} {l : List Clause} (hc : Names X x c)
      (hsu : ∀ (a : Addr) (oe : Obj) (cls : Value) (d : Option Addr) (pn : List (Addr × Obj)), Zc cls d oe → (∃ vs, oe.data = .fields vs) → PSs (X.suite a ((a, oe) :: pn)) (b₀ :: suite) (ts a cls d)) (r : HdsN X hds l) :
      HdsN X (.ExceptHandler (some (.Name x np)) none (b₀ :: suite) pos' :: hds) ((c, none, ts) :: l)
  | named {x n : Str} {i : Nat} {c : Value} {ts : Addr → Value → Option Addr → TS} {b₀ : Stmt} {suite : List Stmt} {np pos' : Pos} {hds : List ExceptHandler} {l : List Clause} (hN : X.N.Nodup) (hi : X.N[i]? = some n) (hln : X.env.kindOf n = some .local) (hc : Names X x c)
      (hsu : ∀ (a : Addr) (oe : Obj) (cls : Value) (d : Option Addr) (pn : List (Addr × Obj)), Zc cls d oe → (∃ vs, oe.data = .fields vs) → PSs (X.suite a ((a, oe) :: pn)) (b₀ :: suite) (ts a cls d)) (r : HdsN X hds l) :
      HdsN X (.ExceptHandler (some (.Name x np)) (some n) (b₀ :: suite) pos' :: hds) ((c, some i, ts) :: l)
section
variable {X : Cx} {body : List Stmt} {h₀ : ExceptHandler} {hds : List ExceptHandler} {l : List Clause} {pos : Pos} {tb : WX → TS} {Wout : WX}
theorem ps_try_manyN (hs : X.stack = X.env :: X.outer) (hf : X.env.frame = some X.env.locals) (tk : Takes X Wout)
    (hb : ∀ (W : WX) (pn : List (Addr × Obj)) (xe : Value → Shared → Prop), Takes (X.tr pn xe) W → PassesOwn (model X.prog X.w) X.A X.env xe → PSs (X.tr pn xe) body (tb W))
    (hh : HdsN X (h₀ :: hds) l) : PS X (.Try body (h₀ :: hds) [] [] pos) (fun D σ H => tb (wManyN X.K Wout D l) D σ H) := by
  refine ⟨fun pins s σ H D I h => ?_⟩
  have ok := I.ok
  have hfr : X.A.frames = some (X.env :: X.outer) := by rw [ok.frames, hs]
  refine wpAny_Try_except ?_
  refine wpAny_mono ((hb (wManyN X.K Wout D l) (X.pn ++ pins) (fun e s₁ => wpAny (model X.prog X.w) X.A (noteFrame e X.env) (fun _ s₂ => wpAny (model X.prog X.w) X.A (setFlight e none) (fun _ s₃ =>
    wpAny (model X.prog X.w) X.A (handleBy e X.env (h₀ :: hds)) (SP X pins D) X.xe s₃) X.xe s₂) X.xe s₁) (fun u s' xx => ?_) PassesOwn.looking).run [] s σ H D (I.toTry _) h) (fun f s1 hsp => ?_) (fun e s1 he => he)
  · -- the catch
    obtain ⟨a, B, sI, pins', σ', H', cls, d, rfl, J', nb, up, sky, na, os, ag, w⟩ := xx
    have J : Inv X pins σ' H' sI := J'.ofTry ok
    have sky' : Sky B (X.env :: X.outer) a (Zc cls d) X.env.locals s'.heap := by rw [← hs]; exact sky
    show wpAny (model X.prog X.w) X.A (noteFrame (.ref a) X.env) _ _ _
    refine Sky.land Zc.steady hfr hf sky' fun h3 fl3 up3 => ?_
    have J3 : Inv X pins σ' H' { s' with heap := h3 } := J.landed nb fl3.1 (up.trans up3) os ag
    obtain ⟨oe3, vs3, he3, hz3, hd3⟩ := fl3.there
    have notFr : ∀ {h : Heap} {o : Obj} {vs : Array Value}, h.FunFrames B (X.env :: X.outer) → h.get? a = some o → o.data = .fields vs → a ∉ frs (X.env :: X.outer) := fun {h o vs} ff e dd hm => by
      obtain ⟨_, o', e', hnf⟩ := ff.mem hm
      rw [e] at e'; cases e'
      exact hnf _ dd
    have nfr := notFr fl3.2.2.1 he3 hd3
    have nL : a ≠ X.env.locals := fun z => nfr (List.mem_filterMap.mpr ⟨X.env, List.mem_cons_self, by rw [hf, z]⟩)
    have nF : a ∉ X.fs := fun hm => by
      obtain ⟨e, he, q⟩ := List.mem_filterMap.mp hm
      exact nfr (List.mem_filterMap.mpr ⟨e, List.mem_cons_of_mem _ he, q⟩)
    have S3 := J3.suite he3 hd3 na nL nF
    have go : ∀ {hds' : List ExceptHandler} {l' : List Clause}, HdsN X hds' l' → wManyN X.K Wout D l' cls d σ' H' →
        wpAny (model X.prog X.w) X.A (handleBy (.ref a) X.env hds') (SP X pins D) X.xe { s' with heap := h3 } := by
      intro hds' l' hk
      induction hk with
      | nil =>
        intro w
        refine wpAny_handleBy_nil ?_
        obtain ⟨k1, k2, k3, oe, vs, T, oT, ts', he, hz, hd, h1, hr⟩ := id fl3
        unfold PySem.passOn
        refine wpAny_bind (wpAny_field he hd h1 ?_)
        rw [if_neg (show ¬ ((Value.ref T == Value.none) = true) from by simp)]
        have fin : wpAny (model X.prog X.w) X.A (setFlight (.ref a) X.env.frame) (fun _ s4 => wpAny (model X.prog X.w) X.A (throw (.ref a) : Sem Flow) (SP X pins D) X.xe s4) X.xe { s' with heap := h3 } := by
          rw [hf]
          refine HandSPX.setFlight_upZ fl3 fun h4 hh4 up4 => wpAny_throw (tk _ _ ?_)
          exact ⟨a, B, sI, pins, σ', H', cls, d, rfl, J, nb, (up.trans up3).trans up4, .inr (.inr (by rw [hs]; exact hh4)), na, os, ag, w⟩
        first
          | exact wpAny_bind (wpAny_pure (wpAny_bind fin))
          | exact wpAny_bind fin
      | @plain x c ts b₀ suite np pos' hds2 l2 hc hsu r ih =>
        intro w
        obtain ⟨b, hb1, hyes, hno⟩ := w
        refine wpAny_handleBy_cons (codeAny_handlers_test ?_) (by intro q; cases q)
        have LT : PySem.W.Looks (model X.prog X.w) h3 (typeOf (.ref a)) cls := fun A Q E s k q => wpAny_typeOf_ref (k _ _ he3) (by rw [hz3.1]; exact q)
        have LM := PySem.W.exm_one (M := model X.prog X.w) (J3.kIn) LT hb1
        have test : ∀ {Q : Value → Shared → Prop} {E : Value → Shared → Prop}, Q c { s' with heap := h3 } → wpAny (model X.prog X.w) (X.A.mark (some (.ref a))) (eval (.Name x np) X.env) Q E { s' with heap := h3 } := fun {Q E} q => by
          obtain ⟨hg, hdbg, hm | ⟨hm, hv, hnn⟩⟩ := hc
          · exact ld_glob (X := X.suite a ((a, oe3) :: (X.pn ++ pins))) S3 hg hm q hdbg
          · exact ld_blt (X := X.suite a ((a, oe3) :: (X.pn ++ pins))) S3 hg hm hv q hnn hdbg
        refine test (LM.here ?_)
        cases b with
        | true =>
          refine codeAny_handlers_suite ?_
          refine HandSPX.lands_againZ fl3 fun h4 fl4 up4 => ?_
          have J4 : Inv X pins σ' H' { s' with heap := h4 } := J.landed nb fl4.1 ((up.trans up3).trans up4) os ag
          obtain ⟨oe4, vs4, he4, hz4, hd4⟩ := fl4.there
          have S4 := J4.suite he4 hd4 na nL nF
          refine wpAny_mono ((hsu a oe4 cls d (X.pn ++ pins) hz4 ⟨_, hd4⟩).run [] _ _ H' _ S4 (hyes rfl a na)) (fun f s6 hsp => ?_) (fun _ _ z => False.elim z)
          cases f with
          | next =>
            obtain ⟨σ6, H6, S6, q6⟩ := hsp
            exact ⟨_, _, S6.unsuite ok, q6⟩
          | brk =>
            obtain ⟨σ6, H6, S6, q6⟩ := hsp
            exact ⟨_, _, S6.unsuite ok, q6⟩
          | cont =>
            obtain ⟨σ6, H6, S6, q6⟩ := hsp
            exact ⟨_, _, S6.unsuite ok, q6⟩
          | ret u =>
            obtain ⟨v6, σ6, H6, S6, r6, q6⟩ := hsp
            exact ⟨_, _, _, S6.unsuite ok, r6, q6⟩
        | false =>
          show wpAny _ X.A (handleBy (.ref a) X.env hds2) _ _ _
          exact ih (hno rfl)
      | @named x n i c ts b₀ suite np pos' hds2 l2 hN hi hln hc hsu r ih =>
        intro w
        obtain ⟨b, hb1, hyes, hno⟩ := w
        have hloc : Loc X.env.scope n := .inl hln
        refine wpAny_handleBy_cons (codeAny_handlers_test ?_) (by intro q; cases q)
        have LT : PySem.W.Looks (model X.prog X.w) h3 (typeOf (.ref a)) cls := fun A Q E s k q => wpAny_typeOf_ref (k _ _ he3) (by rw [hz3.1]; exact q)
        have LM := PySem.W.exm_one (M := model X.prog X.w) (J3.kIn) LT hb1
        have test : ∀ {Q : Value → Shared → Prop} {E : Value → Shared → Prop}, Q c { s' with heap := h3 } → wpAny (model X.prog X.w) (X.A.mark (some (.ref a))) (eval (.Name x np) X.env) Q E { s' with heap := h3 } := fun {Q E} q => by
          obtain ⟨hg, hdbg, hm | ⟨hm, hv, hnn⟩⟩ := hc
          · exact ld_glob (X := X.suite a ((a, oe3) :: (X.pn ++ pins))) S3 hg hm q hdbg
          · exact ld_blt (X := X.suite a ((a, oe3) :: (X.pn ++ pins))) S3 hg hm hv q hnn hdbg
        refine test (LM.here ?_)
        cases b with
        | true =>
          refine codeAny_handlers_suite_as ?_
          refine HandSPX.lands_againZ fl3 fun h4 fl4 up4 => ?_
          have J4 : Inv X pins σ' H' { s' with heap := h4 } := J.landed nb fl4.1 ((up.trans up3).trans up4) os ag
          obtain ⟨oe4, vs4, he4, hz4, hd4⟩ := fl4.there
          have S4 := J4.suite he4 hd4 na nL nF
          refine store_ok (X := X.suite a ((a, oe4) :: (X.pn ++ pins))) (v := .ref a) S4 hN hi hloc rfl (fun s5 S5 => ?_) (.inr hln)
          refine wpAny_mono ((hsu a oe4 cls d (X.pn ++ pins) hz4 ⟨_, hd4⟩).run [] s5 _ H' _ S5 (hyes rfl a na)) (fun f s6 hsp => ?_) (fun _ _ z => False.elim z)
          have end_ : ∀ {σ6 : L2.St} {H6 : Hp} {Q : Shared → Prop}, Inv (X.suite a ((a, oe4) :: (X.pn ++ pins))) [] σ6 H6 s6 → (∀ s7, Inv X pins (σ6.set i none) H6 s7 → Q s7) →
              wpAny (model X.prog X.w) X.A (do bindName X.env n .none; unbindBehindTheSuite X.env n pos') (fun _ s7 => Q s7) X.xe s6 := fun {σ6 H6 Q} S6 hq => gone_ok (S6.unsuite ok) hN hi hln hq
          cases f with
          | next =>
            obtain ⟨σ6, H6, S6, q6⟩ := hsp
            exact end_ S6 fun s7 J7 => ⟨_, _, J7, q6⟩
          | brk =>
            obtain ⟨σ6, H6, S6, q6⟩ := hsp
            exact end_ S6 fun s7 J7 => ⟨_, _, J7, q6⟩
          | cont =>
            obtain ⟨σ6, H6, S6, q6⟩ := hsp
            exact end_ S6 fun s7 J7 => ⟨_, _, J7, q6⟩
          | ret u =>
            obtain ⟨v6, σ6, H6, S6, r6, q6⟩ := hsp
            exact end_ S6 fun s7 J7 => ⟨_, _, _, J7, r6, q6⟩
        | false =>
          show wpAny _ X.A (handleBy (.ref a) X.env hds2) _ _ _
          exact ih (hno rfl)
    exact go hh w
  · cases f with
    | next =>
      obtain ⟨σ', H', J', q⟩ := hsp
      exact wpAny_execs_nil ⟨σ', H', J'.ofTry ok, q⟩
    | brk =>
      obtain ⟨σ', H', J', q⟩ := hsp
      exact ⟨σ', H', J'.ofTry ok, q⟩
    | cont =>
      obtain ⟨σ', H', J', q⟩ := hsp
      exact ⟨σ', H', J'.ofTry ok, q⟩
    | ret u =>
      obtain ⟨v, σ', H', J', r, q⟩ := hsp
      exact ⟨v, σ', H', J'.ofTry ok, r, q⟩
end
section
variable {X : Cx} {W : WX} {C : Addr} {x : Str} {p pos pos2 : Pos}
/-- what the text says of an own error without __init__ -/
structure ErrP (K : PySem.W.Frag) (mg : Str → Option Value) (x : Str) (C : Addr) : Prop where
  ex : PySem.W.excIn K C [.type "ValueError", .type "Exception", .type "BaseException", .type "object"] "ValueError.__new__" = true
  gC : mg x = some (.ref C)
  kC : PySem.W.keepIn K (.ref C) = true
  sB : PySem.W.subIn K (.ref C) (.type "BaseException") = some true
  tC : PySem.W.typeIn K (.ref C) = some (.type "type")
  te : PySem.W.exmOne K (.ref C) (.ref C) = some true
theorem exm_is {K : PySem.W.Frag} {S : Value} {C : Addr} {b : Bool} (h1 : PySem.W.subIn K (.ref C) (.type "BaseException") = some true) (h2 : PySem.W.isClsIn K C = true) (h3 : PySem.W.typeIn K (.ref C) = some (.type "type")) (h4 : PySem.W.subIn K S (.ref C) = some b) :
    PySem.W.exmOne K S (.ref C) = some b := by
  have e1 : (PySem.W.subIn K (.ref C) (.type "BaseException") == some true) = true := by rw [h1] <;> rfl
  have e2 : ((PySem.W.clsIn K C).isSome && PySem.W.typeIn K (.ref C) == some (.type "type")) = true := by
    have h2' : (PySem.W.clsIn K C).isSome = true := h2
    rw [h2', h3] <;> rfl
  show (if (PySem.W.subIn K (.ref C) (.type "BaseException") == some true) = true then (if ((PySem.W.clsIn K C).isSome && PySem.W.typeIn K (.ref C) == some (.type "type")) = true then PySem.W.subIn K S (.ref C) else none) else none) = some b
  rw [if_pos e1, if_pos e2]
  exact h4
/-- X() -/
theorem pmk_own0 (T : ErrP X.K X.mg x C) (hg : Gl X x) (hdb : (x == ("__debug__" : Str)) = false := by decide) : PMk X (.Call (.Name x p) [] [] pos) (fun _ H Q => Q (.ref C) none H) := by
  intro pins s σ H Q I h
  refine wpAny_Call_Name_kw (ld_glob I hg T.gC ?_ hdb)
  refine PySem.W.callWith_K0 I.kIn T.kC ?_
  show wpAny _ _ (call (.ref C) []) _ _ _
  obtain ⟨bm, N, nm, qn, bs, hdct, sn, sub, ab, col, dd, k0, k1, k2, k3, k5, mN, hC, hN, hni, T2⟩ := exc_obj I.kIn T.ex
  refine wpAny_call_exc_subT PySem.F.excBase_ValueError T2 hC hN hni (fun h' e hm => ?_) (by show 0 ≤ sizeLine; rw [sizeLine_eq]; omega)
  exact mk_of I hm (raises_own T.sB T.tC) h (I.hok.gone hm.new)
theorem ps_raise0 (hc : X.calm = true) (T : ErrP X.K X.mg x C) (tk : Takes X W) (hg : Gl X x) (hdb : (x == ("__debug__" : Str)) = false := by decide) :
    PS X (.Raise (some (.Call (.Name x p) [] [] pos)) none pos2) (fun _ σ H => W (.ref C) none σ H) :=
  ps_raise hc tk (pmk_own0 T hg hdb)
end
end Vf

set_option maxRecDepth 100000
set_option maxHeartbeats 8000000
namespace Vf
open PySem PySem.Spec PyProof.Rows L2 PyProof.V
theorem cr_reprU {X : Cx} (hgd : Calm X.A) (hu : X.A.units + 200 < cLine) : CallR X (.builtin "repr") (rRepr X.K) := by
  intro pins s σ H vs us Q I r h
  obtain ⟨a, d, rfl, hd, sh, nod, dep, hz, q⟩ := h
  obtain ⟨u, rfl, r1⟩ := vals1 r
  obtain ⟨as, rd⟩ := Dp.reads I d (.ref a) u hd r1
  obtain rfl : u = Value.ref a := r1
  have room := hu
  refine repr_of_reads' rd sh (fun z => by rw [nod] at z; cases z) hgd (by omega) (fun _ _ e => e) (fun h' u tk keep => ?_) hz
  exact ⟨.str d.shown, H, I.kept (t' := tk) keep, ⟨u, rfl⟩, q⟩
theorem cr_reprFlatU {X : Cx} (hgd : Calm X.A) (hu : X.A.units + 200 < cLine) : CallR X (.builtin "repr") rReprFlat := by
  intro pins s σ H vs us Q I r h
  obtain ⟨a, kvs, ds, rfl, ha, fl, sh, dep, hz, q⟩ := h
  obtain ⟨u, rfl, r1⟩ := vals1 r
  obtain rfl : u = Value.ref a := r1
  have room := hu
  have ok : ObjOk X.prog X.w H s.heap a (.dK kvs) := I.hok a _ ha
  obtain ⟨_, away, ws, kv, dict⟩ := ok
  have rd := reads_dictOf (enc := keyD) (fun k key e => key_reads e) dict (pairs_of fl kv)
  refine repr_of_reads' rd sh (fun _ z => ?_) hgd (by omega) (fun _ _ e => e) (fun h' u tk keep => ?_) hz
  · rw [List.mem_singleton] at z
    rw [← z] at away
    simp at away
  · exact ⟨.str (PyData.dict ds).shown, H, I.kept (t' := tk) keep, ⟨u, rfl⟩, q⟩
theorem cr_reprAU {X : Cx} (hgd : Calm X.A) (hu : X.A.units + 200 < cLine) : CallR X (.builtin "repr") (fun xs H Q => ∃ x z, xs = [x] ∧ ReprIs X.K H x z ∧ Q (.str z) H) := by
  intro pins s σ H vs us Q I r h
  obtain ⟨x, z, rfl, hx, q⟩ := h
  cases hx with
  | non =>
    obtain ⟨u, rfl, ru⟩ := vals1 r
    obtain rfl : u = Value.none := ru
    exact PySem.P.repr_of_none ⟨.str _, H, I.tok _, ⟨_, rfl⟩, q⟩
  | bl b =>
    obtain ⟨u, rfl, ru⟩ := vals1 r
    obtain rfl : u = Value.bool b := ru
    exact PySem.P.repr_of_bool ⟨.str _, H, I.tok _, ⟨_, rfl⟩, q⟩
  | int hz =>
    obtain ⟨u, rfl, t, rfl⟩ := vals1 r
    exact PySem.P.repr_of_int hz ⟨.str _, H, I.tok _, ⟨_, rfl⟩, q⟩
  | str hz =>
    obtain ⟨u, rfl, t, rfl⟩ := vals1 r
    exact PySem.P.repr_of_str ⟨.str _, H, I.tok _, ⟨_, rfl⟩, q⟩ hz
  | dat h1 h2 h3 h4 h5 => exact cr_reprU hgd hu pins s σ H _ us Q I r ⟨_, _, rfl, h1, h2, h3, h4, h5, q⟩
  | dic h1 h2 h3 h4 h5 => exact cr_reprFlatU hgd hu pins s σ H _ us Q I r ⟨_, _, _, rfl, h1, h2, h3, h4, h5, q⟩
def rRepK (K : PySem.W.Frag) : List V → Hp → VK → Prop := fun xs H Q => ∃ x z, xs = [x] ∧ ReprIs K H x z ∧ Q (.str z) H
theorem cr_reprAK {X : Cx} {K : PySem.W.Frag} (hK : X.K = K) (hgd : Calm X.A) (hu : X.A.units + 200 < cLine) : CallR X (.builtin "repr") (rRepK K) := by
  subst hK
  exact cr_reprAU hgd hu
theorem units_of {k : Nat} {A : Around} (hr : Room k A) : A.units + 200 < cLine := by
  have := hr.un
  omega
end Vf

set_option maxRecDepth 100000
set_option maxHeartbeats 16000000
namespace Vf
open PySem PySem.Spec PyProof.Rows L2 LamX ClX
def gflds (S T : Addr) : List (Str × V) := [("states", V.ref S), ("steps", V.ref T)]
theorem gn_ne : ¬ (("states" : Str) = "steps") := by decide +kernel
theorem gflds_states (S T : Addr) : (gflds S T).lookup ("states" : Str) = some (.ref S) := by
  unfold gflds
  rw [List.lookup_cons_self]
theorem gflds_steps (S T : Addr) : (gflds S T).lookup ("steps" : Str) = some (.ref T) := by
  unfold gflds
  have e : (("steps" : Str) == ("states" : Str)) = false := by decide +kernel
  rw [List.lookup_cons, e]
  simp only [List.lookup_cons_self]
theorem gflds_put (S T : Addr) : putF "steps" (.ref T) (putF "states" (.ref S) []) = gflds S T := by
  show (if ("states" : Str) = "steps" then [(("states" : Str), V.ref T)] else (("states" : Str), V.ref S) :: putF "steps" (.ref T) []) = _
  rw [if_neg gn_ne]
  rfl
def GrAt (C : Addr) (H : Hp) (p S T : Addr) : Prop := ∃ dx, H p = some (.ins C dx (gflds S T))
structure TxtG (K : PySem.W.Frag) (mg : Str → Option Value) (C : Addr) : Prop where
  cl : Cls K C
  nS : NoAttr K C "states"
  nT : NoAttr K C "steps"
  mgC : mg "Graph" = some (.ref C)
section
variable {P : Program} {w : World} {K : PySem.W.Frag} {mg : Str → Option Value} {base : Heap}
def sp_Graph_init (C : Addr) : Sp := fun vs H Q _ => ∃ (p dx S T : Addr), vs = [.ref p, .ref S, .ref T] ∧ H p = some (.ins C dx []) ∧ ∀ H', But p H H' → H' p = some (.ins C dx (gflds S T)) → Q .non H'
theorem ok_Graph_init {f C : Addr} {fd : FuncData} (F : Fun K "__init__" "Graph.__init__" s_Graph_init f fd) (T : TxtG K mg C) : FnOk P w K mg base CX0 1 f fd p_Graph_init (sp_Graph_init C) := by
  refine F.ok sc_Graph_init (fun vs H Q E h => ?_) (fun cdv A outer s H vs Q E hr h => ?_)
  · obtain ⟨p, dx, S, T', rfl, _⟩ := h
    rfl
  · obtain ⟨p, dx, S, T', rfl, hp, k⟩ := h
    refine ⟨_, pss_cons (ps_fld (pv 0) (pv 1) rfl) (pss_one (ps_fld (pv 0) (pv 2) rfl)), ?_⟩
    refine ⟨_, rfl, _, rfl, p, C, dx, [], rfl, hp, T.cl, T.nS, (by show 0 < 1000; decide), _, rfl, _, rfl, p, C, dx, _, rfl, upd_same, T.cl, T.nT, (by show 1 < 1000; decide), ?_⟩
    exact k _ (((But.refl p H).put).put) (by rw [upd_same, gflds_put])
end
/-- what explore has found, at its end -/
structure ExpAt (K : PySem.W.Frag) (H : Hp) (SL TL : Addr) (es : List (List Nd)) (ls : List (List Str)) (k0 : NK) (ss : List Wt) (rows : List Rw) : Prop where
  sl : H SL = some (.lst (ss.map fun q => V.ref q.1))
  st : ∀ q ∈ ss, StAt K H q.1 q.2.1 q.2.2 ∧ OkSt es ls q.2.1 q.2.2
  tl : H TL = some (.lst (rows.map fun r => V.ref r.1))
  rw : ∀ r ∈ rows, RowAt H r.1 r.2
  len : rows.length = ss.length
  ri : ∀ (i : Nat) (q : Wt) (r : Rw), ss[i]? = some q → rows[i]? = some r → RowIs ss (stepsM ls es q.2.1 q.2.2) (r.2.map Prod.snd)
  nk : (ss.map keyW).Nodup
  cl : ∀ S, ClosedF ls es k0 S → ∀ q ∈ ss, keyW q ∈ S
  hd : ∃ q, ss[0]? = some q ∧ keyW q = k0
theorem ExpAt.same {K : PySem.W.Frag} {H H' : Hp} {SL TL : Addr} {es : List (List Nd)} {ls : List (List Str)} {k0 : NK} {ss : List Wt} {rows : List Rw} (g : ExpAt K H SL TL es ls k0 ss rows) (s : Same H H') : ExpAt K H' SL TL es ls k0 ss rows :=
  ⟨s _ _ g.sl, fun q hq => ⟨(g.st q hq).1.same s, (g.st q hq).2⟩, s _ _ g.tl, fun r hr => (g.rw r hr).same s, g.len, g.ri, g.nk, g.cl, g.hd⟩
/-- the states found are all that can be reached -/
theorem ExpAt.closed {K : PySem.W.Frag} {H : Hp} {SL TL : Addr} {es : List (List Nd)} {ls : List (List Str)} {k0 : NK} {ss : List Wt} {rows : List Rw} (g : ExpAt K H SL TL es ls k0 ss rows) : ClosedF ls es k0 (ss.map keyW) := by
  refine ⟨?_, fun pl held ok hin s hs => ?_⟩
  · obtain ⟨q, h1, rfl⟩ := g.hd
    exact List.mem_map_of_mem (List.mem_of_getElem? h1)
  · obtain ⟨q, hq, e⟩ := List.mem_map.mp hin
    obtain ⟨e1, e2⟩ := stK_inj e
    obtain ⟨i, hi⟩ := List.getElem?_of_mem hq
    have hil := (List.getElem?_eq_some_iff.mp hi).1
    have hr : rows[i]? = some (rows[i]'(by rw [g.len]; exact hil)) := List.getElem?_eq_getElem (by rw [g.len]; exact hil)
    have ri := g.ri i q _ hi hr
    rw [e1, e2] at ri
    obtain ⟨j, hj⟩ := List.getElem?_of_mem hs
    have hjl := (List.getElem?_eq_some_iff.mp hj).1
    obtain ⟨_, _, _, y, h4, h5⟩ := ri.2 j s _ hj (List.getElem?_eq_getElem (by rw [ri.1]; exact hjl))
    rw [← h5]
    exact List.mem_map_of_mem (List.mem_of_getElem? h4)
/-- what explore makes of the lambda's reading -/
def TTexp (K : PySem.W.Frag) (CG CT : Addr) : V → V → (V → Hp → VK → Prop) → Hp → VK → XK → Prop := fun v0 v2 tl H Q E => ∃ (a : Addr) (most : Nat) (ls : List (List Str)) (es : List (List Nd)) (pl : List (Option Nat)) (held : List Ln), v0 = .ref a ∧ v2 = .int (most : Int) ∧ StAt K H a pl held ∧ OkSt es ls pl held ∧ GoodEs es ls ∧
  (∀ pl held, OkSt es ls pl held → (stepsM ls es pl held).length ≤ 10000) ∧ 1 ≤ most ∧ most ≤ 1000000 ∧
  (∀ b pl held H' (Q' : VK), Same H H' → StAt K H' b pl held → OkSt es ls pl held → (∀ x H'', H' x = none → Same H' H'' → StepsAt K H'' x (stepsM ls es pl held) → Q' (.ref x) H'') → tl (.ref b) H' Q') ∧
  (∀ p S T ss rows H', H p = none → Same H H' → GrAt CG H' p S T → ExpAt K H' S T es ls (stK pl held) ss rows → ss.length ≤ most → Q (.ref p) H') ∧
  ((∀ S, ClosedF ls es (stK pl held) S → most < S.length) → ∀ H', Same H H' → E (.ref CT) none H')
theorem nk_le {S ks : List NK} (nd : ks.Nodup) (h : ∀ k ∈ ks, k ∈ S) : ks.length ≤ S.length := nodup_le nd h
theorem RowIs.snoc {ss : List Wt} {steps : List Step} {row : List RowE} {s : Step} {e : RowE} {y : Wt} (h : RowIs ss steps row) (h1 : e.1 = s.1) (h2 : e.2.1 = s.2.1) (h3 : e.2.2.1 = s.2.2.1) (h4 : ss[e.2.2.2]? = some y) (h5 : keyW y = stK s.2.2.2.1 s.2.2.2.2) : RowIs ss (steps ++ [s]) (row ++ [e]) := by
  refine ⟨by rw [List.length_append, List.length_append, h.1]; rfl, fun i s' e' hs he => ?_⟩
  by_cases hi : i < steps.length
  · rw [List.getElem?_append_left hi] at hs
    rw [List.getElem?_append_left (by rw [h.1]; exact hi)] at he
    exact h.2 i s' e' hs he
  · have hl := (List.getElem?_eq_some_iff.mp hs).1
    rw [List.length_append, List.length_singleton] at hl
    obtain rfl : i = steps.length := by omega
    rw [List.getElem?_append_right (Nat.le_refl _), Nat.sub_self] at hs
    rw [← h.1, List.getElem?_append_right (Nat.le_refl _), Nat.sub_self] at he
    obtain rfl := Option.some.inj hs
    obtain rfl := Option.some.inj he
    exact ⟨h1, h2, h3, y, h4, h5⟩
theorem RowAt.upd {H : Hp} {r x : Addr} {es : List (Addr × RowE)} {o old : HO} (h : RowAt H r es) (hx : H x = some old) (hn : ∀ ys, old ≠ .tup ys) (hr : r ≠ x) : RowAt (upd H x o) r es := ⟨by rw [upd_ne hr]; exact h.at_, fun e he => by
  have := h.each e he
  rw [upd_ne (ne_of this hx (fun z => hn _ z.symm))]
  exact this⟩
theorem kvsOf_len (ss : List Wt) : (kvsOf ss).length = ss.length := by
  have := congrArg List.length (kvsOf_keys ss)
  rwa [List.length_map, List.length_map] at this
theorem EI.exp {P : Program} {w : World} {K : PySem.W.Frag} {H H' : Hp} {SL D TL : Addr} {es : List (List Nd)} {ls : List (List Str)} {k0 : NK} {ss : List Wt} {xs : List (NK × Addr × Value)} {rows : List Rw} (g : EI P w K H H' SL D TL es ls k0 ss xs rows) (hl : rows.length = ss.length) : ExpAt K H' SL TL es ls k0 ss rows :=
  ⟨g.sl, g.st, g.tl, fun r hr => (g.rw r hr).1, hl, g.ri.2, g.nk, g.cl, g.hd⟩
theorem explore_gives {X : Cx} {g CT CG fI : Addr} {cdg : Value} {fdI : FuncData} {q : Str} {k : Nat} (k1 : 1 ≤ k) (T : Txt0 X.K X.mg) (TG : TxtG X.K X.mg CG) (EB : ErrP X.K X.mg "TooManyStates" CT) (M : Mk X.K CG fI) (GI : FnOk X.prog X.w X.K X.mg X.base CX0 1 fI fdI p_Graph_init (sp_Graph_init CG)) (bI : Binds X.K fdI p_Graph_init []) :
    Gives3 X n_explore "explore" (defScope s_explore) g cdg (defBody s_explore) "steps_of" 1 q k (TTexp X.K CG CT) := by
  intro f c' s H Q E v0 v2 tl act hr hco h
  obtain ⟨a, most, ls, es, pl, held, rfl, rfl, hst, ok, good, fewS, m1, mM, ht, kQ, kE⟩ := h
  have hu : (X.A.deeper (envOfC "explore" (defScope s_explore) s.heap.objs.size g cdg)).units + 16 < cLine := by
    have := units_of hr
    omega
  have hr2 : Room 2 (X.A.deeper (envOfC "explore" (defScope s_explore) s.heap.objs.size g cdg)) := hr.mono (by omega)
  refine ⟨_, pss_cons (ps_set (i := 3) sc_explore.nd rfl (Or.inl rfl) (pe_lst (pa_cons (pv 0) pa_nil)))
    (pss_cons (ps_set (i := 4) sc_explore.nd rfl (Or.inl rfl) (pe_disp1WK (P := X.prog) (w := X.w) (K := X.K) rfl rfl rfl hu (pv 0) pe_int))
    (pss_cons (ps_set (i := 5) sc_explore.nd rfl (Or.inl rfl) (pe_lst pa_nil))
    (pss_cons (ps_while (passes_of rfl) (pt_cmpR op_lt (pe_callB call_len_seq (by rfl) T.len PySem.boot_len (pa_cons (pv 5) pa_nil)) (pe_callB call_len_seq (by rfl) T.len PySem.boot_len (pa_cons (pv 3) pa_nil)) (nomark _))
      (pss_cons (ps_set (i := 6) sc_explore.nd rfl (Or.inl rfl) (act [] _ _ _ _ _ (pe_ix ix_list (pv 3) (pe_callB call_len_seq (by rfl) T.len PySem.boot_len (pa_cons (pv 5) pa_nil)) (fun _ _ => rfl)) (by rfl)))
      (pss_cons (ps_set (i := 7) sc_explore.nd rfl (Or.inl rfl) (pe_lst pa_nil))
      (pss_cons (ps_for (passes_of rfl) rfl (pi_list (pv 6)) (pg_tup (by rfl) (pgs_cons (pg_name (i := 8) sc_explore.nd rfl (Or.inl rfl)) (pgs_cons (pg_name (i := 9) sc_explore.nd rfl (Or.inl rfl)) (pgs_cons (pg_name (i := 10) sc_explore.nd rfl (Or.inl rfl)) (pgs_cons (pg_name (i := 11) sc_explore.nd rfl (Or.inl rfl)) pgs_nil)))))
        (C8.pss_cut (ps_if (pt_cmpR (op_notInW hu) (pv 11) (pv 4) (by rfl))
          (pss_cons (ps_if (pt_cmpR op_eq (pe_callB call_len_seq (by rfl) T.len PySem.boot_len (pa_cons (pv 3) pa_nil)) (pv 2) (nomark _)) (pss_one (ps_raise0 rfl EB (takes_of rfl rfl rfl rfl) (by rfl))) pss_nil)
          (pss_cons (ps_asg (pe_callB call_len_seq (by rfl) T.len PySem.boot_len (pa_cons (pv 3) pa_nil)) (pg_sub (pv 4) (pv 11) (set_nestNewW hu)))
          (pss_one (ps_expr (pe_bm PySem.F.plainAttrs_list PySem.F.slot_list_append PySem.F.type_list_append mt_append (pv 3) (pa_cons (pv 11) pa_nil)))))) pss_nil)
        (pss_one (ps_expr (pe_bm PySem.F.plainAttrs_list PySem.F.slot_list_append PySem.F.type_list_append mt_append (pv 7) (pa_cons (pe_tup (pa_cons (pv 8) (pa_cons (pv 9) (pa_cons (pv 10) (pa_cons (pe_dgetW hu (pv 4) (pv 11) (fun _ _ => rfl)) pa_nil))))) pa_nil))))))
      (pss_one (ps_expr (pe_bm PySem.F.plainAttrs_list PySem.F.slot_list_append PySem.F.type_list_append mt_append (pv 5) (pa_cons (pv 7) pa_nil))))))))
    (pss_one (ps_ret (pe_make M GI hr2 rfl TG.mgC bI .nil pass0 (pa_cons (pv 3) (pa_cons (pv 5) pa_nil)))))))), ?_⟩
  refine ⟨_, rfl, (by show 1 ≤ sizeLine; decide), fun SL hSL => ?_⟩
  have sA := same_new (o := .lst [.ref a]) hSL
  have eSL : (upd H SL (.lst [.ref a])) SL = some (.lst [.ref a]) := upd_same
  generalize hH1 : upd H SL (.lst [.ref a]) = H1 at sA eSL ⊢
  refine fun D hD => ⟨_, rfl, a, stK pl held, rfl, ((hst.same sA).same (same_new hD)).keyW, upd_same, fun u z nd => ?_⟩
  have sB : Same H1 (upd (upd H1 D (NDo X.prog X.w D [])) D u) := same_upd (same_new hD) hD
  have eD1 : H D = none := sA.free hD
  have hDS : D ≠ SL := (ne_of_none eSL hD).symm
  have eSL2 := sB _ _ eSL
  generalize upd (upd H1 D (NDo X.prog X.w D [])) D u = H2 at sB nd eSL2 ⊢
  refine ⟨Nat.zero_le _, fun TL hTL => ?_⟩
  have sC := same_new (o := .lst []) hTL
  have eTL : (upd H2 TL (.lst [])) TL = some (.lst []) := upd_same
  have hTL0 : H TL = none := (sA.trans sB).free hTL
  have sABC := sA.trans (sB.trans sC)
  have ei0 : EI X.prog X.w X.K H (upd H2 TL (.lst [])) SL D TL es ls (stK pl held) [(a, pl, held)] [(stK pl held, a, z)] [] := by
    refine ⟨sABC, sC _ _ eSL2, fun q hq => ?_, nd.tups ((sC _ _ nd.at_).trans nd.at_.symm) (tupsW_same sC), eTL, (fun r hr => nomatch hr), ⟨Nat.zero_le _, fun i q r _ hr => by cases hr⟩, by simp, fun S hS q hq => ?_, ⟨_, rfl, rfl⟩, ne_of_none eSL2 hTL⟩
    · rw [List.mem_singleton.mp hq]
      exact ⟨hst.same sABC, ok⟩
    · rw [List.mem_singleton.mp hq]
      exact hS.1
  generalize upd H2 TL (.lst []) = H3 at ei0 ⊢
  clear hH1 sA eSL hD nd sB eSL2 hTL sC eTL sABC
  refine ⟨fun m σ H' => ∃ (v6 v7 v8 v9 v10 v11 : Option V) (ss : List Wt) (xs : List (NK × Addr × Value)) (rows : List Rw), σ = [some (.ref a), some (.ref f), some (.int (most : Int)), some (.ref SL), some (.ref D), some (.ref TL), v6, v7, v8, v9, v10, v11] ∧ EI X.prog X.w X.K H H' SL D TL es ls (stK pl held) ss xs rows ∧ ss.length ≤ most ∧ most + 1 - rows.length = m,
    ⟨_, _, _, _, _, _, _, _, _, _, rfl, ei0, m1, rfl⟩, ?_⟩
  rintro m σ H4 ⟨v6, v7, v8, v9, v10, v11, ss, xs, rows, rfl, ei, lm, rfl⟩
  refine ⟨_, rfl, TL, _, rfl, .inl (SqL.of ei.tl), _, rfl, SL, _, rfl, .inl (SqL.of ei.sl), _, _, rfl, rfl, _, rfl, ?_⟩
  rw [List.length_map, List.length_map]
  by_cases hlt : rows.length < ss.length
  · rw [decide_eq_true (p := ((rows.length : Nat) : Int) < ((ss.length : Nat) : Int)) (by omega)]
    refine iteT ⟨_, fun σ' H' h => h, ?_⟩
    have hq0 : ss[rows.length]? = some ss[rows.length] := List.getElem?_eq_getElem hlt
    generalize ss[rows.length] = q0 at hq0
    obtain ⟨st0, ok0⟩ := ei.st q0 (List.mem_of_getElem? hq0)
    refine ⟨rfl, _, rfl, _, rfl, TL, _, rfl, .inl (SqL.of ei.tl), SL, _, _, _, rfl, rfl, SqL.of ei.sl, (by rw [List.length_map]; exact atI_nat (j := rows.length) (by rw [List.getElem?_map, hq0]; rfl)), ei.b _ _ hco, ?_⟩
    refine ht q0.1 q0.2.1 q0.2.2 H4 _ ei.b st0 ok0 fun ax H5 hax s5 due => ?_
    obtain ⟨qs, g1, g2, g3⟩ := due
    have ei5 := ei.same s5
    have lqs : qs.length ≤ 10000 := by
      have := fewS _ _ ok0
      rw [← g2, List.length_map] at this
      exact this
    have hms : ∀ q ∈ qs, q.2 ∈ stepsM ls es q0.2.1 q0.2.2 := fun q hq => by
      rw [← g2]
      exact List.mem_map_of_mem hq
    have aS : ax ≠ SL := (ne_of_none ei.sl hax).symm
    have aT : ax ≠ TL := (ne_of_none ei.tl hax).symm
    have aD : ax ≠ D := (ne_of_none ei.nd.at_ hax).symm
    refine ⟨Nat.zero_le _, fun rw hrw => ?_⟩
    have s6 := same_new (o := .lst []) hrw
    have erw : (upd H5 rw (.lst [])) rw = some (.lst []) := upd_same
    have ei6 := ei5.same s6
    have rS : rw ≠ SL := (ne_of_none ei5.sl hrw).symm
    have rT : rw ≠ TL := (ne_of_none ei5.tl hrw).symm
    have rD : rw ≠ D := (ne_of_none ei5.nd.at_ hrw).symm
    have rA : ax ≠ rw := ne_of_none g1 hrw
    have rR : ∀ r ∈ rows, rw ≠ r.1 := fun r hr => (ne_of_none (ei5.rw r hr).1.at_ hrw).symm
    have hrw0 : H rw = none := ei5.b.free hrw
    have g16 := s6 _ _ g1
    have g36 : ∀ q ∈ qs, StepAt X.K (upd H5 rw (.lst [])) q.1 q.2 := fun q hq => by
      obtain ⟨b, e1, e2⟩ := g3 q hq
      exact ⟨b, Vf.SqT.same e1 s6, e2.same s6⟩
    generalize upd H5 rw (.lst []) = H6 at ei6 erw g16 g36 ⊢
    clear ei5 hax s5 g1 g3 hrw s6
    refine ⟨_, rfl, ax, rfl, ⟨_, SqL.of g16⟩, for_it (walk_list (K := X.K) (a := ax) (xs := qs.map fun q => V.ref q.1)) (fun i σ H' => ∃ (v8 v9 v10 v11 : Option V) (more : List Wt) (xs : List (NK × Addr × Value)) (row : List (Addr × RowE)), σ = [some (.ref a), some (.ref f), some (.int (most : Int)), some (.ref SL), some (.ref D), some (.ref TL), some (.ref ax), some (.ref rw), v8, v9, v10, v11] ∧
        EI X.prog X.w X.K H H' SL D TL es ls (stK pl held) (ss ++ more) xs rows ∧ (ss ++ more).length ≤ most ∧ H' ax = some (.lst (qs.map fun q => V.ref q.1)) ∧ TupsW X.K H6 H' ∧ RowAt H' rw row ∧ RowIs (ss ++ more) ((qs.take i).map Prod.snd) (row.map Prod.snd))
      ⟨_, _, _, _, [], _, [], rfl, by rw [List.append_nil]; exact ei6, by rw [List.append_nil]; exact lm, g16, fun _ _ h => h, ⟨erw, fun e he => nomatch he⟩, ⟨rfl, fun i s e hs => by cases hs⟩⟩ (fun i σ H' _ ⟨_, _, _, _, _, _, _, _, _, _, e, _⟩ => SqL.of e) ?_ ?_⟩
    · rintro i y σ H7' H7 hi ⟨v8, v9, v10, v11, more, xs7, row, rfl, ei7, lm7, ax7, t7, row7, ri7⟩ ⟨rfl, hy⟩
      rw [List.length_map] at hi
      have hqi : qs[i]? = some qs[i] := List.getElem?_eq_getElem hi
      generalize qs[i] = qi at hqi
      rw [List.getElem?_map, hqi] at hy
      obtain rfl : V.ref qi.1 = y := Option.some.inj hy
      have hqm := List.mem_of_getElem? hqi
      have hsm := hms qi hqm
      have ok7 := ok_step good ok0 hsm
      obtain ⟨bb, k1', k2⟩ := g36 qi hqm
      have k17 := t7 _ _ k1'
      have k27 := k2.tupsW t7
      have tk : (qs.take (i + 1)).map Prod.snd = (qs.take i).map Prod.snd ++ [qi.2] := by
        rw [List.take_add_one, hqi, List.map_append]
        rfl
      have clk : ∀ S, ClosedF ls es (stK pl held) S → stK qi.2.2.2.2.1 qi.2.2.2.2.2 ∈ S := fun S hS => hS.2 _ _ ok0 (ei7.cl S hS q0 (List.mem_append_left _ (List.mem_of_getElem? hq0))) _ hsm
      refine ⟨qi.1, _, rfl, k17, rfl, _, _, rfl, _, _, rfl, _, _, rfl, _, _, rfl, rfl, ?_⟩
      refine ⟨fun σ H' => ∃ (more : List Wt) (xs : List (NK × Addr × Value)) (j : Nat) (y : Wt), σ = [some (.ref a), some (.ref f), some (.int (most : Int)), some (.ref SL), some (.ref D), some (.ref TL), some (.ref ax), some (.ref rw), some (.int (qi.2.1 : Int)), some (plV qi.2.2.1), some (.int (qi.2.2.2.1 : Int)), some (.ref bb)] ∧
        EI X.prog X.w X.K H H' SL D TL es ls (stK pl held) (ss ++ more) xs rows ∧ (ss ++ more).length ≤ most ∧ H' ax = some (.lst (qs.map fun q => V.ref q.1)) ∧ TupsW X.K H6 H' ∧ RowAt H' rw row ∧ RowIs (ss ++ more) ((qs.take i).map Prod.snd) (row.map Prod.snd) ∧
        valV (kvsOf (ss ++ more)) (stK qi.2.2.2.2.1 qi.2.2.2.2.2) = some (.int (j : Int)) ∧ (ss ++ more)[j]? = some y ∧ keyW y = stK qi.2.2.2.2.1 qi.2.2.2.2.2, ?_, ?_⟩
      · refine ⟨_, rfl, _, rfl, D, bb, kvsOf (ss ++ more), stK qi.2.2.2.2.1 qi.2.2.2.2.2, xs7, rfl, rfl, ei7.nd, k27.keyW, _, rfl, ?_⟩
        rw [if_pos rfl]
        cases hv : valV (kvsOf (ss ++ more)) (stK qi.2.2.2.2.1 qi.2.2.2.2.2) with
        | some v =>
          obtain ⟨j, y, rfl, e1, e2⟩ := kvsOf_val hv
          exact iteF ⟨more, xs7, j, y, rfl, ei7, lm7, ax7, t7, row7, ri7, hv, e1, e2⟩
        | none =>
          have hnew : stK qi.2.2.2.2.1 qi.2.2.2.2.2 ∉ (ss ++ more).map keyW := fun hin => by
            rw [← kvsOf_keys] at hin
            obtain ⟨p, hp, e⟩ := List.mem_map.mp hin
            have := valV_any (kvs := kvsOf (ss ++ more)) (k := stK qi.2.2.2.2.1 qi.2.2.2.2.2)
            rw [hv] at this
            exact Bool.false_ne_true (this.symm.trans (List.any_eq_true.mpr ⟨p, hp, decide_eq_true e⟩))
          refine iteT ⟨_, rfl, SL, _, rfl, .inl (SqL.of ei7.sl), _, rfl, rfl, _, rfl, ?_⟩
          rw [List.length_map]
          by_cases hfull : (ss ++ more).length = most
          · rw [decide_eq_true (p := V.int (((ss ++ more).length : Nat) : Int) = V.int (most : Int)) (by rw [hfull])]
            refine iteT (kE (fun S hS => ?_) _ ei7.b)
            have := nodup_le (S := S) (ks := (ss ++ more).map keyW ++ [stK qi.2.2.2.2.1 qi.2.2.2.2.2]) (List.nodup_append.mpr ⟨ei7.nk, by simp, fun a ha b hb e => hnew (by rw [← List.mem_singleton.mp hb, ← e]; exact ha)⟩) fun k hk => by
              rcases List.mem_append.mp hk with hk | hk
              · obtain ⟨q, hq, rfl⟩ := List.mem_map.mp hk
                exact ei7.cl S hS q hq
              · rw [List.mem_singleton.mp hk]
                exact clk S hS
            rw [List.length_append, List.length_map, List.length_singleton] at this
            omega
          · rw [decide_eq_false (p := V.int (((ss ++ more).length : Nat) : Int) = V.int (most : Int)) (fun z => hfull (by have := V.int.inj z; omega))]
            refine iteF ⟨_, rfl, SL, _, rfl, .inl (SqL.of ei7.sl), _, rfl, _, rfl, D, bb, kvsOf (ss ++ more), stK qi.2.2.2.2.1 qi.2.2.2.2.2, xs7, rfl, rfl, ei7.nd, k27.keyW, hv, (by rw [kvsOf_len, sizeLine_eq]; omega), fun u z nd8 => ?_⟩
            rw [List.length_map] at nd8
            have ei8 := ei7.put (z := z) eD1 hSL k27 ok7 hv clk nd8
            have nS : SL ≠ D := hDS.symm
            have sl8 : (upd H7 D u) SL = some (.lst ((ss ++ more).map fun q => V.ref q.1)) := by
              rw [upd_ne nS]
              exact ei7.sl
            have t8 : TupsW X.K H7 (upd H7 D u) := tupsW_ndo ei7.nd.at_
            have r8 : RowAt (upd H7 D u) rw row := row7.upd ei7.nd.at_ (fun ys z => ndo_ne z) rD
            refine ⟨_, rfl, .inl ⟨rfl, _, SqL.of sl8⟩, _, rfl, SL, _, _, rfl, rfl, sl8, by rw [List.length_map, sizeLine_eq]; omega, ?_⟩
            refine ⟨more ++ [(bb, qi.2.2.2.2.1, qi.2.2.2.2.2)], _, (ss ++ more).length, (bb, qi.2.2.2.2.1, qi.2.2.2.2.2), rfl, by rw [← List.append_assoc]; exact ei8, by rw [← List.append_assoc, List.length_append, List.length_singleton]; omega, by rw [upd_ne aS, upd_ne aD]; exact ax7, t7.trans (t8.trans (tupsW_but sl8 ((But.refl SL _).put))), r8.upd sl8 (fun ys z => by cases z) rS, by rw [← List.append_assoc]; exact ri7.more, ?_, by rw [← List.append_assoc]; exact List.getElem?_concat_length, rfl⟩
            rw [← List.append_assoc, kvsOf_app]
            show valV (kvsOf (ss ++ more) ++ [(stK qi.2.2.2.2.1 qi.2.2.2.2.2, V.int (((ss ++ more).length : Nat) : Int))]) (stK qi.2.2.2.2.1 qi.2.2.2.2.2) = _
            rw [← putK_new _ hv, valV_put, if_pos rfl]
      · rintro σ H8 ⟨more, xs8, j, y, rfl, ei8, lm8, ax8, t8, row8, ri8, hv8, hj8, hy8⟩
        refine ⟨_, rfl, .inl ⟨rfl, _, SqL.of row8.at_⟩, _, rfl, _, rfl, _, rfl, _, rfl, _, rfl, D, bb, kvsOf (ss ++ more), stK qi.2.2.2.2.1 qi.2.2.2.2.2, xs8, .int (j : Int), rfl, rfl, ei8.nd, (k2.tupsW t8).keyW, hv8, (by show 4 ≤ sizeLine; decide), fun e0 he0 => ?_⟩
        have s9 := same_new (o := .tup [.int (qi.2.1 : Int), plV qi.2.2.1, .int (qi.2.2.2.1 : Int), .int (j : Int)]) he0
        have ee0 : (upd H8 e0 (.tup [.int (qi.2.1 : Int), plV qi.2.2.1, .int (qi.2.2.2.1 : Int), .int (j : Int)])) e0 = some (.tup [.int (qi.2.1 : Int), plV qi.2.2.1, .int (qi.2.2.2.1 : Int), .int (j : Int)]) := upd_same
        have ei9 := ei8.same s9
        have row9 := row8.same s9
        have t9 := t8.trans (tupsW_same s9)
        have ax9 := s9 _ _ ax8
        generalize upd H8 e0 (.tup [.int (qi.2.1 : Int), plV qi.2.2.1, .int (qi.2.2.2.1 : Int), .int (j : Int)]) = H9 at ei9 row9 t9 ax9 ee0 ⊢
        have lrow : row.length ≤ 10000 := by
          have := ri8.1
          rw [List.length_map, List.length_map, List.length_take] at this
          omega
        refine ⟨rw, _, _, rfl, rfl, row9.at_, by rw [List.length_map, sizeLine_eq]; omega, ?_⟩
        refine ⟨_, _, _, _, more, xs8, row ++ [(e0, qi.2.1, qi.2.2.1, qi.2.2.2.1, j)], rfl, ei9.off row9.at_ hrw0 rS rT rR, lm8, by rw [upd_ne rA]; exact ax9, t9.trans (tupsW_but row9.at_ ((But.refl rw _).put)), ⟨by rw [upd_same, List.map_append]; rfl, fun e he => ?_⟩, ?_⟩
        · rcases List.mem_append.mp he with he | he
          · have := row9.each e he
            rw [upd_ne (ne_of this row9.at_ (by intro z; cases z))]
            exact this
          · rw [List.mem_singleton.mp he]
            rw [upd_ne (ne_of ee0 row9.at_ (by intro z; cases z))]
            exact ee0
        · rw [tk, List.map_append]
          exact ri8.snoc rfl rfl rfl hj8 hy8
    · rintro σ H7 ⟨v8, v9, v10, v11, more, xs7, row, rfl, ei7, lm7, ax7, t7, row7, ri7⟩
      rw [List.length_map, List.take_length, g2] at ri7
      have q7 : (ss ++ more)[rows.length]? = some q0 := by
        rw [List.getElem?_append_left hlt]
        exact hq0
      refine ⟨_, rfl, .inl ⟨rfl, _, SqL.of ei7.tl⟩, _, rfl, TL, _, _, rfl, rfl, ei7.tl, by rw [List.length_map, sizeLine_eq]; omega, ?_⟩
      have ei8 := ei7.row (r := (rw, row)) (q := q0) hTL0 row7 rS rT q7 ri7
      exact ⟨most + 1 - (rows.length + 1), by omega, _, _, _, _, _, _, ss ++ more, xs7, rows ++ [(rw, row)], rfl, ei8, lm7, by rw [List.length_append]; rfl⟩
  · rw [decide_eq_false (p := ((rows.length : Nat) : Int) < ((ss.length : Nat) : Int)) (by omega)]
    refine iteF ⟨_, rfl, _, rfl, fun x dx hx hdx hne => ?_⟩
    have s0 : Same H4 (upd (upd H4 dx (.own x)) x (.ins CG dx [])) := same_upd (same_new hdx) hx
    refine ⟨x, dx, SL, TL, rfl, upd_same, fun H6 hb6 e6 => ⟨rfl, ?_⟩⟩
    have s46 := hb6.same s0 hx
    exact kQ x SL TL ss rows H6 (ei.b.free hx) (ei.b.trans s46) ⟨dx, e6⟩ ((ei.same s46).exp (by have := ei.ri.1; omega)) lm
end Vf

set_option maxRecDepth 100000
set_option maxHeartbeats 16000000
namespace Vf
open PySem PySem.Spec PyProof.Rows L2 LamX ClX
section
variable {P : Program} {w : World} {K : PySem.W.Frag} {mg : Str → Option Value} {base : Heap}
/-- a def with defaults, its code object known -/
theorem FunD.okC {x qual : Str} {params : Arguments} {body : List Stmt} {scope : Scope} {dvs : List V} {kws : List (Str × V)} {f c : Addr} {fd : FuncData} {CX : CXT} {N ps : List Str} {k : Nat} {sp : Sp} (F : FunD K x qual params body scope dvs kws f fd) (hc : fd.code = .ref c) (S : FnScope N ps scope) (len : ∀ vs H Q E, sp vs H Q E → vs.length = ps.length)
    (hbody : ∀ (A : Around) (outer : List Env) (s : Shared) (H : Hp) (vs : List V) (Q : VK) (E : XK), Room k (A.deeper (envOfC qual scope s.heap.objs.size f (.ref c))) → sp vs H Q E →
      ∃ t, PSs (cxOf CX P w K mg base N qual scope f (.ref c) A outer s H E) body t ∧ t { nx := fun _ H' => Q .non H', rt := Q } (start N vs) H) : FnOk P w K mg base CX (k + 1) f fd ps sp := by
  obtain ⟨oc, od, dV, kV, doc, pm, an, cdv, ct, osl, rfl, lk, hcd, _, _⟩ := F.ex
  obtain rfl : cdv = .ref c := hc
  exact fn_of lk hcd S len fun A outer s H vs Q E hr hsp => hbody A outer s H vs Q E hr hsp
end
theorem SqL.ext {K : PySem.W.Frag} {H H' : Hp} {a : Addr} {xs : List V} (h : SqL K H a xs) (s : ExtN H H') : SqL K H' a xs := by
  rcases h with (h | ⟨o, h⟩) | h
  · exact .inl (.inl (s _ _ h (by intro ps z; cases z)))
  · exact .inl (.inr ⟨o, s _ _ h (by intro ps z; cases z)⟩)
  · exact .inr h
theorem tupsW_ext {K : PySem.W.Frag} {H H' : Hp} (s : ExtN H H') : TupsW K H H' := fun a xs h => by
  rcases h with (h | ⟨o, h⟩) | h
  · exact .inl (.inl (s _ _ h (by intro ps z; cases z)))
  · exact .inl (.inr ⟨o, s _ _ h (by intro ps z; cases z)⟩)
  · exact .inr h
theorem PlcAt.ext {K : PySem.W.Frag} {H H' : Hp} {l : Addr} {ls : List (List Str)} {es : List (List Nd)} (h : PlcAt K H l ls es) (s : ExtN H H') : PlcAt K H' l ls es := by
  obtain ⟨Qs, h1, h2, h3⟩ := h
  refine ⟨Qs, Vf.SqL.ext h1 s, h2, fun q hq => ?_⟩
  obtain ⟨rs, r1, r2, r3⟩ := h3 q hq
  refine ⟨rs, Vf.SqL.ext r1 s, r2, fun r hr => ?_⟩
  obtain ⟨t, j, e1, e2, e3⟩ := r3 r hr
  exact ⟨t, j, e1, tupsW_ext s _ _ e2, tupsW_ext s _ _ e3⟩
theorem pe_fnS {X : Cx} {x : Str} {ps : List Str} {k : Nat} {sp : Sp} {W : WX} {e : Expr} {es : List Expr} {t : TA} {p pos : Pos} (G : OkF X.prog X.w X.K X.mg X.base (L2.CX X.prog X.w) x ps k sp) (hr : Room k X.A) (hg : Gl X x) (tk : Takes X W)
    (ha : PA X (e :: es) t) (hdb : (x == ("__debug__" : Str)) = false := by decide) (he : starEach (e :: es) X.env = (false, eval e X.env) :: starEach es X.env := by rfl) (hpl : (backTo pos (starEach es X.env)).any (·.1) = false := by rfl) :
    PE X (.Call (.Name x p) (e :: es) [] pos) (tCallS sp (WE W) t) := by
  obtain ⟨f, fd, hm, hk, hb, F⟩ := G
  exact pe_callS F hr hg hm hk hb (fun σ => passAt tk σ) ha hdb he hpl
/-- the table of explored_from, for its lambda -/
abbrev tabE (Tb : Addr) : List (Addr × Str) := [(Tb, ("explored_from" : Str) ++ ".<locals>." ++ "<lambda>")]
section
variable {P : Program} {w : World} {K : PySem.W.Frag} {mg : Str → Option Value} {base : Heap}
/-- threads of a layout, in their bounds -/
structure Fit (C CP : Addr) (K : PySem.W.Frag) (H : Hp) (p sd nd l : Addr) (cs : List (Str × Nat)) (r : Nat) (ls : List (List Str)) (ps : List (Addr × Str × List Nd)) : Prop where
  lay : LayAt C H p sd nd cs r ls
  thr : ThrAt CP K H l ps
  good : GoodEs (ps.map fun q => q.2.2) ls
  few : ps.length ≤ 50
  fewl : ls.length ≤ 100
  nodes : ∀ q ∈ ps, q.2.2.length ≤ 100 ∧ ∀ n ∈ q.2.2, n.tg.length ≤ 100 ∧ lineNo ls n.cell < ls.length ∧ ∃ j : Nat, valV (mergeK [] (numPr ls)) (Sum.inr n.cell) = some (.int (j : Int))
  fewS : ∀ pl held, OkSt (ps.map fun q => q.2.2) ls pl held → (stepsM ls (ps.map fun q => q.2.2) pl held).length ≤ 10000
def sp_explored_from (K : PySem.W.Frag) (C CP CG CT Tb : Addr) : Sp := fun vs H Q E => ∃ (p sd nd l a : Addr) (cs : List (Str × Nat)) (r : Nat) (ls : List (List Str)) (ps : List (Addr × Str × List Nd)) (pl : List (Option Nat)) (held : List Ln) (most : Nat), vs = [.ref p, .ref l, .ref a, .int (most : Int)] ∧ Fit C CP K H p sd nd l cs r ls ps ∧
  StAt K H a pl held ∧ OkSt (ps.map fun q => q.2.2) ls pl held ∧ 1 ≤ most ∧ most ≤ 1000000 ∧ Tabs (tabE Tb) H ∧
  (∀ g S T ss rows H', ExtN H H' → Tabs (tabE Tb) H' → GrAt CG H' g S T → ExpAt K H' S T (ps.map fun q => q.2.2) ls (stK pl held) ss rows → ss.length ≤ most → Q (.ref g) H') ∧
  ((∀ S, ClosedF ls (ps.map fun q => q.2.2) (stK pl held) S → most < S.length) → ∀ H', ExtN H H' → Tabs (tabE Tb) H' → E (.ref CT) none H')
theorem ok_explored_from {f ge C CP CG CT Tb c fI : Addr} {fd fde fdI : FuncData} (F : FunD K "explored_from" "explored_from" (defArgs s_explored_from) (defBody s_explored_from) (defScope s_explored_from) [.int 1000] [] f fd) (hcd : fd.code = .ref c) (TB : TabB base mg c Tb) (T : Txt0 K mg)
    (FE : Fun K "explore" "explore" s_explore ge fde) (hme : mg "explore" = some (.ref ge)) (hbe : Binds K fde p_explore []) (TG : TxtG K mg CG) (EB : ErrP K mg "TooManyStates" CT) (M : Mk K CG fI) (GI : FnOk P w K mg base CX0 1 fI fdI p_Graph_init (sp_Graph_init CG)) (bI : Binds K fdI p_Graph_init [])
    (GP : OkF P w K mg base CX0 "placed" p_placed 2 (sp_placed K C CP)) (GS : OkF P w K mg base CX0 "steps_ahead" p_steps_ahead 3 (sp_steps_ahead K)) :
    FnOk P w K mg base (L2.CX P w) 6 f fd p_explored_from (sp_explored_from K C CP CG CT Tb) := by
  obtain ⟨oce, ode, kVe, doce, pme, ane, cdve, cte, osle, rfl, lke, hcde⟩ := FE.ex
  refine FunD.okC F hcd sc_explored_from (fun vs H Q E h => ?_) (fun A outer s H vs Q E hr h => ?_)
  · obtain ⟨p, sd, nd, l, a, cs, r, ls, ps, pl, held, most, rfl, _⟩ := h
    rfl
  · obtain ⟨p, sd, nd, l, a, cs, r, ls, ps, pl, held, most, rfl, fit, hst, ok, m1, mM, tb, kQ, kE⟩ := h
    have hr2 : Room 2 _ := hr.mono (by decide)
    refine ⟨_, pss_cons (ps_set (i := 4) sc_explored_from.nd rfl (Or.inr rfl) (pe_fn GP hr2 rfl pass0 (pa_cons (pv 0) (pa_cons (pv 1) pa_nil))))
      (pss_one (ps_ret (pe_lamcall3 (T := tabE Tb) (k := 3) (j := 3) (y := "ahead") (tb := tCall (sp_steps_ahead K) [] E0 (tCons (tVar 4) (tCons (tVar 5) tNil))) rfl hme FE.kp lke hcde hbe sc_explore rfl (Or.inl rfl) (explore_gives (by decide) T TG EB M GI bI) TB rfl (List.mem_singleton.mpr rfl) (fun p hp _ => by rw [List.mem_singleton.mp hp]; rfl) hr (lamS1_by (show lamSB1 (defScope s_explored_from) _ _ = true from by decide +kernel)) (show ("ahead" : Str) ∉ n_explored_from from by decide +kernel) rfl (fun _ _ _ _ _ _ => rfl)
        (fun _ _ _ _ _ _ hr' => pe_fn GS hr' rfl pass0 (pa_cons (pv 4) (pa_cons (pv 5) pa_nil))) (pv 2) rfl (Or.inl rfl) (takes_of rfl rfl rfl rfl)))), ?_⟩
    refine ⟨_, rfl, _, rfl, p, sd, nd, l, cs, r, ls, ps, rfl, fit.lay, fit.thr, Nat.le_trans fit.few (by decide), fun q hq => ⟨(fit.nodes q hq).1, fun n hm => ((fit.nodes q hq).2 n hm).2.2⟩, fun x H1 s1 hplc => ?_⟩
    refine ⟨_, rfl, tb.ext s1, .int (most : Int), rfl, fun H2 eN T2 => ?_⟩
    have les : (ps.map fun q => q.2.2).length ≤ 50 := by
      rw [List.length_map]
      exact fit.few
    refine ⟨a, most, ls, ps.map fun q => q.2.2, pl, held, rfl, rfl, (hst.same s1).tupsW (tupsW_ext eN), ok, fit.good, fit.fewS, m1, mM, fun b pl' held' H' Q' s' hst' ok' k' => ?_, fun g S T' ss rows H' hp s' hg hex hle => ?_, fun hbig H' s' => ?_⟩
    · refine ⟨_, rfl, _, rfl, x, b, ls, ps.map fun q : Addr × Str × List Nd => q.2.2, pl', held', rfl, Vf.PlcAt.same (hplc.ext eN) s', hst', ok'.pls, by rw [ok'.pls]; omega, ok'.hls, fit.fewl, fun l hl => ?_, fun ns h1 n h2 => ?_, ok'.pin, k'⟩
      · obtain ⟨o1, o2, _⟩ := ok'.own l hl
        exact Nat.le_trans (rises_max o2 o1) les
      · obtain ⟨q, hq, rfl⟩ := List.mem_map.mp h1
        exact ⟨((fit.nodes q hq).2 n h2).1, ((fit.nodes q hq).2 n h2).2.1⟩
    · exact kQ g S T' ss rows H' ((ExtN.of s1).trans (eN.trans (ExtN.of s'))) (T2.ext s') hg hex hle
    · exact kE hbig H' ((ExtN.of s1).trans (eN.trans (ExtN.of s'))) (T2.ext s')
/-- explored(layout, threads) -/
def sp_explored (K : PySem.W.Frag) (C CP CG CT Tb : Addr) : Sp := fun vs H Q E => ∃ (p sd nd l : Addr) (cs : List (Str × Nat)) (r : Nat) (ls : List (List Str)) (ps : List (Addr × Str × List Nd)) (most : Nat), vs = [.ref p, .ref l, .int (most : Int)] ∧ Fit C CP K H p sd nd l cs r ls ps ∧
  1 ≤ most ∧ most ≤ 1000000 ∧ Tabs (tabE Tb) H ∧
  (∀ g S T ss rows H', ExtN H H' → Tabs (tabE Tb) H' → GrAt CG H' g S T → ExpAt K H' S T (ps.map fun q => q.2.2) ls (stK ((ps.map fun q => q.2.2).map fun _ => some 0) (ls.map fun _ => ([], false))) ss rows → ss.length ≤ most → Q (.ref g) H') ∧
  ((∀ S, ClosedF ls (ps.map fun q => q.2.2) (stK ((ps.map fun q => q.2.2).map fun _ => some 0) (ls.map fun _ => ([], false))) S → most < S.length) → ∀ H', ExtN H H' → Tabs (tabE Tb) H' → E (.ref CT) none H')
theorem Fit.same {C CP : Addr} {H H' : Hp} {p sd nd l : Addr} {cs : List (Str × Nat)} {r : Nat} {ls : List (List Str)} {ps : List (Addr × Str × List Nd)} (f : Fit C CP K H p sd nd l cs r ls ps) (s : Same H H') : Fit C CP K H' p sd nd l cs r ls ps := ⟨f.lay.same s, f.thr.same s, f.good, f.few, f.fewl, f.nodes, f.fewS⟩
theorem ok_explored {f C CP CG CT Tb : Addr} {fd : FuncData} (F : FunD K "explored" "explored" (defArgs s_explored) (defBody s_explored) (defScope s_explored) [.int 1000] [] f fd) (GS : OkF P w K mg base CX0 "start" p_start 3 (sp_start K C CP)) (GX : OkF P w K mg base (L2.CX P w) "explored_from" p_explored_from 6 (sp_explored_from K C CP CG CT Tb)) :
    FnOk P w K mg base (L2.CX P w) 7 f fd p_explored (sp_explored K C CP CG CT Tb) := by
  refine FunD.ok F sc_explored (fun vs H Q E h => ?_) (fun cdv A outer s H vs Q E hr h => ?_)
  · obtain ⟨p, sd, nd, l, cs, r, ls, ps, most, rfl, _⟩ := h
    rfl
  · obtain ⟨p, sd, nd, l, cs, r, ls, ps, most, rfl, fit, m1, mM, tb, kQ, kE⟩ := h
    have hr3 : Room 3 _ := hr.mono (by decide)
    refine ⟨_, pss_one (ps_ret (pe_fnS GX hr rfl (takes_of rfl rfl rfl rfl) (pa_cons (pv 0) (pa_cons (pv 1) (pa_cons (pe_fn GS hr3 rfl pass0 (pa_cons (pv 0) (pa_cons (pv 1) pa_nil))) (pa_cons (pv 2) pa_nil)))))), ?_⟩
    refine ⟨_, rfl, _, rfl, _, rfl, _, rfl, p, sd, nd, l, cs, r, ls, ps, rfl, fit.lay, fit.thr, Nat.le_trans fit.few (by decide), fit.fewl, fun q hq => ⟨(fit.nodes q hq).1, fun n hm => ((fit.nodes q hq).2 n hm).2.2⟩, fun a H1 s1 hst => ?_⟩
    have e0 : (ps.map fun _ => (some 0 : Option Nat)) = (ps.map fun q => q.2.2).map fun _ => some 0 := by rw [List.map_map]; rfl
    rw [e0] at hst
    refine ⟨_, rfl, p, sd, nd, l, a, cs, r, ls, ps, _, _, most, rfl, fit.same s1, hst, ok_begin fit.good, m1, mM, tb.ext s1, fun g S T ss rows H' e' t' hg hex hle => kQ g S T ss rows H' ((ExtN.of s1).trans e') t' hg hex hle, fun hbig H' e' t' => kE hbig H' ((ExtN.of s1).trans e') t'⟩
end
end Vf

set_option maxRecDepth 100000
set_option maxHeartbeats 16000000
namespace Vf
open PySem PySem.Spec PyProof.Rows L2 LamX ClX
/-- thread, node, moves -/
abbrev Mark := Nat × Nat × Nat
def visB (z : Bool) (vis : List Mark) (th n : Nat) : Bool := vis.any fun v => decide (v.1 = th) && decide (v.2.1 = n) && (decide (v.2.2 = 0) == z)
def tabRow (z : Bool) (vis : List Mark) (th len : Nat) : List V := (List.range len).map fun n => .bl (visB z vis th n)
theorem tabRow_len (z : Bool) (vis : List Mark) (th len : Nat) : (tabRow z vis th len).length = len := by
  unfold tabRow
  rw [List.length_map, List.length_range]
theorem tabRow_get {z : Bool} {vis : List Mark} {th len n : Nat} (h : n < len) : (tabRow z vis th len)[n]? = some (.bl (visB z vis th n)) := by
  unfold tabRow
  rw [List.getElem?_map, List.getElem?_range h]
  rfl
theorem visB_app (z : Bool) (vis : List Mark) (v : Mark) (th n : Nat) : visB z (vis ++ [v]) th n = (visB z vis th n || (decide (v.1 = th) && decide (v.2.1 = n) && (decide (v.2.2 = 0) == z))) := by
  unfold visB
  rw [List.any_append, List.any_cons, List.any_nil, Bool.or_false]
theorem tabRow_none (z : Bool) (th len : Nat) : tabRow z [] th len = List.replicate len (.bl false) := by
  unfold tabRow visB
  refine List.ext_getElem (by rw [List.length_map, List.length_range, List.length_replicate]) fun i h1 h2 => ?_
  simp
theorem tabRow_other {z : Bool} {vis : List Mark} {v : Mark} {th len : Nat} (h : v.1 ≠ th ∨ (decide (v.2.2 = 0) == z) = false) : tabRow z (vis ++ [v]) th len = tabRow z vis th len := by
  unfold tabRow
  refine List.map_congr_left fun n _ => ?_
  rw [visB_app]
  rcases h with h | h
  · rw [decide_eq_false h]
    simp
  · rw [h]
    simp
theorem tabRow_set {z : Bool} {vis : List Mark} {v : Mark} {len : Nat} (hz : (decide (v.2.2 = 0) == z) = true) : tabRow z (vis ++ [v]) v.1 len = (tabRow z vis v.1 len).set v.2.1 (.bl true) := by
  refine List.ext_getElem? fun i => ?_
  rw [List.getElem?_set]
  by_cases hi : i < len
  · rw [tabRow_get hi, visB_app, hz, decide_eq_true rfl, Bool.true_and, Bool.and_true]
    by_cases e : v.2.1 = i
    · rw [if_pos e, if_pos (by rw [tabRow_len]; omega), decide_eq_true e, Bool.or_true]
    · rw [if_neg e, tabRow_get hi, decide_eq_false e, Bool.or_false]
  · rw [List.getElem?_eq_none (by rw [tabRow_len]; omega)]
    by_cases e : v.2.1 = i
    · rw [if_pos e, if_neg (by rw [tabRow_len]; omega)]
    · rw [if_neg e, List.getElem?_eq_none (by rw [tabRow_len]; omega)]
/-- a table of marks -/
structure TabAt (z : Bool) (H : Hp) (a : Addr) (as : List Addr) (lens : List Nat) (vis : List Mark) : Prop where
  at_ : H a = some (.lst (as.map V.ref))
  len : as.length = lens.length
  row : ∀ (th : Nat) (b : Addr) (n : Nat), as[th]? = some b → lens[th]? = some n → H b = some (.lst (tabRow z vis th n))
theorem TabAt.same {z : Bool} {H H' : Hp} {a : Addr} {as : List Addr} {lens : List Nat} {vis : List Mark} (t : TabAt z H a as lens vis) (s : Same H H') : TabAt z H' a as lens vis := ⟨s _ _ t.at_, t.len, fun th b n h1 h2 => s _ _ (t.row th b n h1 h2)⟩
theorem TabAt.set {z : Bool} {H : Hp} {a b : Addr} {as : List Addr} {lens : List Nat} {vis : List Mark} {v : Mark} {len : Nat} (t : TabAt z H a as lens vis) (hb : as[v.1]? = some b) (hl : lens[v.1]? = some len) (nd : as.Nodup) (ha : a ∉ as) (hz : (decide (v.2.2 = 0) == z) = true) :
    TabAt z (upd H b (.lst ((tabRow z vis v.1 len).set v.2.1 (.bl true)))) a as lens (vis ++ [v]) := by
  refine ⟨?_, t.len, fun th c n h1 h2 => ?_⟩
  · rw [upd_ne (fun e => ha (by rw [e]; exact List.mem_of_getElem? hb))]
    exact t.at_
  · by_cases e : v.1 = th
    · subst e
      obtain rfl := Option.some.inj (hb.symm.trans h1)
      obtain rfl := Option.some.inj (hl.symm.trans h2)
      rw [upd_same, tabRow_set hz]
    · have hne : c ≠ b := fun q => e (by
        have h3 := List.getElem?_eq_some_iff.mp hb
        have h4 := List.getElem?_eq_some_iff.mp h1
        obtain ⟨i1, e1⟩ := h3
        obtain ⟨i2, e2⟩ := h4
        exact (List.getElem_inj nd).mp (e1.trans (q.symm.trans e2.symm)))
      rw [upd_ne hne, tabRow_other (.inl e)]
      exact t.row th c n h1 h2
theorem TabAt.off {z : Bool} {H : Hp} {a b : Addr} {as : List Addr} {lens : List Nat} {vis : List Mark} {v : Mark} {o : HO} (t : TabAt z H a as lens vis) (ha : a ≠ b) (hb : b ∉ as) (hz : (decide (v.2.2 = 0) == z) = false) : TabAt z (upd H b o) a as lens (vis ++ [v]) :=
  ⟨by rw [upd_ne ha]; exact t.at_, t.len, fun th c n h1 h2 => by
    rw [upd_ne (fun e => hb (by rw [← e]; exact List.mem_of_getElem? h1)), tabRow_other (.inr hz)]
    exact t.row th c n h1 h2⟩
/-- the marks of what was found -/
def nodeAt (pl : List (Option Nat)) (th : Nat) : Nat := ((pl[th]?).getD none).getD 0
def markOf (q : Wt) (e : Addr × RowE) : Mark := (e.2.1, nodeAt q.2.1 e.2.1, e.2.2.2.1)
def marks (ps : List (Wt × Rw)) : List Mark := ps.flatMap fun p => p.2.2.map (markOf p.1)
def Reach (ls : List (List Str)) (es : List (List Nd)) (k0 : NK) (pl : List (Option Nat)) (held : List Ln) : Prop := OkSt es ls pl held ∧ ∀ S, ClosedF ls es k0 S → stK pl held ∈ S
def FreeP (z : Bool) (ls : List (List Str)) (es : List (List Nd)) (k0 : NK) (th n : Nat) : Prop := ∃ pl held, Reach ls es k0 pl held ∧ pl[th]? = some (some n) ∧ ∃ s ∈ stepsM ls es pl held, s.1 = th ∧ (decide (s.2.2.1 = 0) == z) = true
theorem step_place {ls : List (List Str)} {es : List (List Nd)} {pl : List (Option Nat)} {held : List Ln} {s : Step} (h : s ∈ stepsM ls es pl held) : ∃ n, pl[s.1]? = some (some n) := by
  obtain ⟨th, i, n, g, h1, h2, h3, h4, rfl⟩ := step_of h
  exact ⟨i, h2⟩
theorem marks_iff {K : PySem.W.Frag} {H : Hp} {SL TL : Addr} {es : List (List Nd)} {ls : List (List Str)} {k0 : NK} {ss : List Wt} {rows : List Rw} (g : ExpAt K H SL TL es ls k0 ss rows) (z : Bool) (th n : Nat) : visB z (marks (ss.zip rows)) th n = true ↔ FreeP z ls es k0 th n := by
  unfold visB
  rw [List.any_eq_true]
  constructor
  · rintro ⟨v, hv, h⟩
    simp only [Bool.and_eq_true, decide_eq_true_eq] at h
    obtain ⟨⟨h1, h2⟩, h3⟩ := h
    obtain ⟨⟨q, r⟩, hp, hm⟩ := List.mem_flatMap.mp hv
    obtain ⟨e, he, rfl⟩ := List.mem_map.mp hm
    obtain ⟨i, hi⟩ := List.getElem?_of_mem hp
    rw [List.getElem?_zip_eq_some] at hi
    have ri := g.ri i q r hi.1 hi.2
    obtain ⟨j, hj⟩ := List.getElem?_of_mem he
    have hj2 : (r.2.map Prod.snd)[j]? = some e.2 := by rw [List.getElem?_map, hj]; rfl
    have hjl : j < (stepsM ls es q.2.1 q.2.2).length := by
      rw [← ri.1]
      exact (List.getElem?_eq_some_iff.mp hj2).1
    have hs : (stepsM ls es q.2.1 q.2.2)[j]? = some (stepsM ls es q.2.1 q.2.2)[j] := List.getElem?_eq_getElem hjl
    generalize (stepsM ls es q.2.1 q.2.2)[j] = s at hs
    obtain ⟨e1, _, e3, _⟩ := ri.2 j s e.2 hs hj2
    have hsm := List.mem_of_getElem? hs
    obtain ⟨m, hpl⟩ := step_place hsm
    have hqm := List.mem_of_getElem? hi.1
    refine ⟨q.2.1, q.2.2, ⟨(g.st q hqm).2, fun S hS => g.cl S hS q hqm⟩, ?_, s, hsm, e1.symm.trans h1, by rw [← e3]; exact h3⟩
    have hth : e.2.1 = th := h1
    have hn : nodeAt q.2.1 e.2.1 = n := h2
    rw [e1] at hth hn
    subst hth
    unfold nodeAt at hn
    rw [hpl] at hn ⊢
    exact congrArg (fun x => some (some x)) hn
  · rintro ⟨pl, held, ⟨ok, hre⟩, hpl, s, hs, h1, h2⟩
    obtain ⟨q, hq, e⟩ := List.mem_map.mp (hre _ g.closed)
    obtain ⟨e1, e2⟩ := stK_inj e
    obtain ⟨i, hi⟩ := List.getElem?_of_mem hq
    have hil := (List.getElem?_eq_some_iff.mp hi).1
    have hr : rows[i]? = some (rows[i]'(by rw [g.len]; exact hil)) := List.getElem?_eq_getElem (by rw [g.len]; exact hil)
    generalize rows[i]'(by rw [g.len]; exact hil) = r at hr
    have ri := g.ri i q r hi hr
    rw [e1, e2] at ri
    obtain ⟨j, hj⟩ := List.getElem?_of_mem hs
    have hjl : j < (r.2.map Prod.snd).length := by
      rw [ri.1]
      exact (List.getElem?_eq_some_iff.mp hj).1
    rw [List.length_map] at hjl
    have hej : r.2[j]? = some r.2[j] := List.getElem?_eq_getElem hjl
    generalize r.2[j] = e0 at hej
    obtain ⟨f1, _, f3, _⟩ := ri.2 j s e0.2 hj (by rw [List.getElem?_map, hej]; rfl)
    refine ⟨markOf q e0, List.mem_flatMap.mpr ⟨(q, r), ?_, List.mem_map_of_mem (List.mem_of_getElem? hej)⟩, ?_⟩
    · exact List.mem_of_getElem? (i := i) (by rw [List.getElem?_zip_eq_some]; exact ⟨hi, hr⟩)
    · simp only [Bool.and_eq_true, decide_eq_true_eq]
      refine ⟨⟨f1.trans h1, ?_⟩, by show (decide (e0.2.2.2.1 = 0) == z) = true; rw [f3]; exact h2⟩
      show nodeAt q.2.1 e0.2.1 = n
      unfold nodeAt
      rw [f1, h1, e1, hpl]
      rfl
def kindZ (f p : Bool) : Str := if f = true ∧ p = true then "sometimes" else if p = true then "always" else if f = true then "never" else "unreached"
open Classical in
noncomputable def kindOf (ls : List (List Str)) (es : List (List Nd)) (k0 : NK) (th n : Nat) : Str := kindZ (decide (FreeP true ls es k0 th n)) (decide (FreeP false ls es k0 th n))
open Classical in
theorem marks_kind {K : PySem.W.Frag} {H : Hp} {SL TL : Addr} {es : List (List Nd)} {ls : List (List Str)} {k0 : NK} {ss : List Wt} {rows : List Rw} (g : ExpAt K H SL TL es ls k0 ss rows) (th n : Nat) : kindZ (visB true (marks (ss.zip rows)) th n) (visB false (marks (ss.zip rows)) th n) = kindOf ls es k0 th n := by
  have e : ∀ z, visB z (marks (ss.zip rows)) th n = decide (FreeP z ls es k0 th n) := fun z => by
    rw [Bool.eq_iff_iff, marks_iff g z th n, decide_eq_true_iff]
  unfold kindOf
  rw [e, e]
section
variable {P : Program} {w : World} {K : PySem.W.Frag} {mg : Str → Option Value} {base : Heap}
def sp_kind : Sp := fun vs H Q _ => ∃ f p : Bool, vs = [.bl f, .bl p] ∧ Q (.str (kindZ f p)) H
theorem ok_kind {f : Addr} {fd : FuncData} (F : Fun K "_kind" "_kind" s_kind f fd) : FnOk P w K mg base CX0 1 f fd p_kind sp_kind := by
  refine F.ok sc_kind (fun vs H Q E h => ?_) (fun cdv A outer s H vs Q E hr h => ?_)
  · obtain ⟨a, b, rfl, _⟩ := h
    rfl
  · obtain ⟨a, b, rfl, k⟩ := h
    refine ⟨_, pss_cons (ps_if (PW.pt (pw_and (pt_val (pv 0)) (pw_and1 (pt_val (pv 1))))) (pss_one (ps_ret pe_str)) pss_nil)
      (pss_cons (ps_if (pt_val (pv 1)) (pss_one (ps_ret pe_str)) pss_nil)
      (pss_one (ps_ret (pe_ifExp (pt_val (pv 0)) pe_str pe_str)))), ?_⟩
    cases a <;> cases b
    · exact ⟨_, rfl, _, rfl, iteF (iteF ⟨_, rfl, _, rfl, iteF ⟨_, rfl, _, rfl, iteF k⟩⟩)⟩
    · exact ⟨_, rfl, _, rfl, iteF (iteF ⟨_, rfl, _, rfl, iteT k⟩)⟩
    · exact ⟨_, rfl, _, rfl, iteT ⟨_, rfl, _, rfl, iteF ⟨_, rfl, _, rfl, iteF ⟨_, rfl, _, rfl, iteT k⟩⟩⟩⟩
    · exact ⟨_, rfl, _, rfl, iteT ⟨_, rfl, _, rfl, iteT k⟩⟩
end
end Vf

set_option maxRecDepth 100000
set_option maxHeartbeats 16000000
namespace Vf
open PySem PySem.Spec PyProof.Rows L2 LamX ClX
/-- how the two tables lie -/
structure TabsOk (H1 : Hp) (aF aP : Addr) (asF asP : List Addr) : Prop where
  nF : asF.Nodup
  nP : asP.Nodup
  fF : aF ∉ asF
  pP : aP ∉ asP
  fP : aF ∉ asP
  pF : aP ∉ asF
  dj : ∀ b ∈ asF, b ∉ asP
  fr : (∀ b ∈ asF, H1 b = none) ∧ ∀ b ∈ asP, H1 b = none
theorem mark_step {H1 H' : Hp} {aF aP : Addr} {asF asP : List Addr} {lens : List Nat} {vis : List Mark} {v : Mark} {len : Nat} (o : TabsOk H1 aF aP asF asP) (s : Same H1 H') (tF : TabAt true H' aF asF lens vis) (tP : TabAt false H' aP asP lens vis) (hl : lens[v.1]? = some len) :
    ∃ (b : Addr) (xs : List V), H' (if decide (v.2.2 = 0) = true then aF else aP) = some (.lst ((if decide (v.2.2 = 0) = true then asF else asP).map V.ref)) ∧ (if decide (v.2.2 = 0) = true then asF else asP)[v.1]? = some b ∧ H' b = some (.lst xs) ∧ xs.length = len ∧
      Same H1 (upd H' b (.lst (xs.set v.2.1 (.bl true)))) ∧ TabAt true (upd H' b (.lst (xs.set v.2.1 (.bl true)))) aF asF lens (vis ++ [v]) ∧ TabAt false (upd H' b (.lst (xs.set v.2.1 (.bl true)))) aP asP lens (vis ++ [v]) := by
  have hlen := (List.getElem?_eq_some_iff.mp hl).1
  by_cases hz : v.2.2 = 0
  · rw [decide_eq_true hz, if_pos rfl, if_pos rfl]
    have hb : asF[v.1]? = some (asF[v.1]'(by rw [tF.len]; exact hlen)) := List.getElem?_eq_getElem _
    generalize asF[v.1]'(by rw [tF.len]; exact hlen) = b at hb
    have hm := List.mem_of_getElem? hb
    refine ⟨b, _, tF.at_, hb, tF.row _ _ _ hb hl, tabRow_len .., same_upd s (o.fr.1 b hm), tF.set hb hl o.nF o.fF (by rw [decide_eq_true hz]; rfl), tP.off (fun e => o.pF (e ▸ hm)) (o.dj b hm) (by rw [decide_eq_true hz]; rfl)⟩
  · rw [decide_eq_false hz, if_neg Bool.false_ne_true, if_neg Bool.false_ne_true]
    have hb : asP[v.1]? = some (asP[v.1]'(by rw [tP.len]; exact hlen)) := List.getElem?_eq_getElem _
    generalize asP[v.1]'(by rw [tP.len]; exact hlen) = b at hb
    have hm := List.mem_of_getElem? hb
    refine ⟨b, _, tP.at_, hb, tP.row _ _ _ hb hl, tabRow_len .., same_upd s (o.fr.2 b hm), tF.off (fun e => o.fP (e ▸ hm)) (fun h => o.dj b h hm) (by rw [decide_eq_false hz]; rfl), tP.set hb hl o.nP o.pP (by rw [decide_eq_false hz]; rfl)⟩
theorem mk_tab {K : PySem.W.Frag} {mg : Str → Option Value} {CP l : Addr} {ps : List (Addr × Str × List Nd)} {i : Nat} {u : TS} {D : Ends} {σ : L2.St} {H1 : Hp} (TP : TxtP K mg CP) (hthr : ThrAt CP K H1 l ps) (few : ps.length ≤ 50) (sm : ∀ q ∈ ps, q.2.2.length ≤ 100) (hσ : σ[1]? = some (some (.ref l)))
    (hw : ∀ v, wipe ((wipe σ ([(("program" : Str), 11)].map (·.2))).set 11 (some v)) ([(("program" : Str), 11)].map (·.2)) = wipe σ ([(("program" : Str), 11)].map (·.2))) (h11 : ∀ v, ((wipe σ ([(("program" : Str), 11)].map (·.2))).set 11 (some v))[11]? = some (some v))
    (hR : ∀ (a : Addr) (as : List Addr) (H2 : Hp), H1 a = none → Same H1 H2 → H2 a = some (.lst (as.map V.ref)) → as.length = ps.length → as.Nodup → (∀ b ∈ as, H1 b = none ∧ b ≠ a) → (∀ (th : Nat) (b : Addr) (q : Addr × Str × List Nd), as[th]? = some b → ps[th]? = some q → H2 b = some (.lst (List.replicate q.2.2.length (.bl false)))) → u D (σ.set i (some (.ref a))) H2) :
    tSeq (tAsg (tLc (iList K (tVar 1)) (gName 11) tYes (tOp rRep (tLst (tCons (tC (.bl false)) tNil)) (tCB (rLenK K) (tCons (tFld K (tVar 11) "nodes") tNil))) ([(("program" : Str), 11)].map (·.2))) (gName i)) u D σ H1 := by
  refine ⟨_, hσ, l, rfl, ⟨_, hthr.1⟩, fun a ha => lc_it (walk_list (K := K) (a := l) (xs := ps.map fun q => V.ref q.1)) (fun y H' => ∃ as : List Addr, Same H1 H' ∧ H' a = some (.lst (as.map V.ref)) ∧ as.length = y ∧ as.Nodup ∧ (∀ b ∈ as, H1 b = none ∧ b ≠ a ∧ H' b ≠ none) ∧ ∀ (th : Nat) (b : Addr) (q : Addr × Str × List Nd), as[th]? = some b → ps[th]? = some q → H' b = some (.lst (List.replicate q.2.2.length (.bl false))))
    ⟨[], same_new ha, upd_same, rfl, List.nodup_nil, (fun b hb => nomatch hb), fun th b q h => by cases h⟩ (fun y H' _ ⟨_, s, _⟩ => sqL_kept hthr.1 s) ?_ ?_⟩
  · rintro y x H2' H2 hy ⟨as, s2, ha2, hl, nd, fr, ro⟩ ⟨rfl, hx⟩
    rw [List.length_map] at hy
    have hq : ps[y]? = some ps[y] := List.getElem?_eq_getElem hy
    generalize ps[y] = q at hq
    rw [List.getElem?_map, hq] at hx
    obtain rfl : V.ref q.1 = x := Option.some.inj hx
    have hqm := List.mem_of_getElem? hq
    have sm1 := sm q hqm
    refine ⟨hw _, ?_⟩
    rw [show ∀ σ H Q, tYes σ H Q = Q true H from fun _ _ _ => rfl]
    rw [if_pos rfl]
    refine ⟨(by show 1 ≤ sizeLine; decide), fun c hc => ?_⟩
    have s3 := same_new (o := .lst [.bl false]) hc
    have ec : (upd H2 c (.lst [.bl false])) c = some (.lst [.bl false]) := upd_same
    have ha3 := s3 _ _ ha2
    have fr3 : ∀ b ∈ as, (upd H2 c (.lst [.bl false])) b ≠ none := fun b hb e => (fr b hb).2.2 (s3.free e)
    have ro3 : ∀ (th : Nat) (b : Addr) (q : Addr × Str × List Nd), as[th]? = some b → ps[th]? = some q → (upd H2 c (.lst [.bl false])) b = some (.lst (List.replicate q.2.2.length (.bl false))) := fun th b q h1 h2 => s3 _ _ (ro th b q h1 h2)
    have s23 := s2.trans s3
    generalize upd H2 c (.lst [.bl false]) = H3 at s3 ec ha3 fr3 ro3 s23 ⊢
    obtain ⟨dx, t, p1, as', p2, p3, p4⟩ := (hthr.2 q hqm).same s23
    refine ⟨_, h11 _, q.1, CP, dx, _, _, rfl, p1, TP.cl, TP.nN, pflds_nodes _ _, t, _, rfl, .inr (SqT.of p2), c, _, _, rfl, rfl, ec, ?_, ?_, ?_, fun b hb => ?_⟩
    · rw [List.length_map, p3]
      omega
    · rw [List.length_map, p3]
      omega
    · rw [List.length_map, p3, Int.toNat_natCast, sizeLine_eq]
      show 1 * _ ≤ _
      omega
    have e : (List.replicate (((as'.map V.ref).length : Nat) : Int).toNat [V.bl false]).flatten = List.replicate q.2.2.length (.bl false) := by
      rw [Int.toNat_natCast, List.length_map, p3, List.flatten_replicate_singleton]
    rw [e]
    have s4 := same_new (o := .lst (List.replicate q.2.2.length (.bl false))) hb
    have hab : b ≠ a := (ne_of_none ha3 hb).symm
    have hbn : b ∉ as := fun h => fr3 b h hb
    refine ⟨_, s4 _ _ ha3, by rw [List.length_map, sizeLine_eq]; omega, as ++ [b], same_upd (s23.trans s4) ha, by rw [upd_same, List.map_append]; rfl, by rw [List.length_append, hl]; rfl, List.nodup_append.mpr ⟨nd, by simp, fun c hc d hd e => hbn (by rw [← List.mem_singleton.mp hd, ← e]; exact hc)⟩, fun d hd => ?_, fun th d q' h1 h2 => ?_⟩
    · rcases List.mem_append.mp hd with hd | hd
      · refine ⟨(fr d hd).1, (fr d hd).2.1, ?_⟩
        rw [upd_ne (fr d hd).2.1]
        exact fun e => fr3 d hd (s4.free e)
      · rw [List.mem_singleton.mp hd]
        refine ⟨s23.free hb, hab, ?_⟩
        rw [upd_ne hab, upd_same]
        exact fun e => by cases e
    · by_cases hth : th < as.length
      · rw [List.getElem?_append_left hth] at h1
        rw [upd_ne (fr d (List.mem_of_getElem? h1)).2.1]
        exact s4 _ _ (ro3 th d q' h1 h2)
      · have hh := (List.getElem?_eq_some_iff.mp h1).1
        rw [List.length_append, List.length_singleton] at hh
        obtain rfl : th = as.length := by omega
        rw [List.getElem?_append_right (Nat.le_refl _), Nat.sub_self] at h1
        obtain rfl : b = d := Option.some.inj h1
        rw [hl, hq] at h2
        obtain rfl := Option.some.inj h2
        rw [upd_ne hab]
        exact upd_same
  · rintro H2 ⟨as, s2, ha2, hl, nd, fr, ro⟩
    rw [List.length_map] at hl
    exact hR a as H2 ha s2 ha2 hl nd (fun b hb => ⟨(fr b hb).1, (fr b hb).2.1⟩) ro
end Vf

set_option maxRecDepth 100000
set_option maxHeartbeats 32000000
namespace Vf
open PySem PySem.Spec PyProof.Rows L2 LamX ClX
theorem pe_fldK {X : Cx} (K : PySem.W.Frag) {e : Expr} {ta : TE} {f : Str} {pos : Pos} (hK : X.K = K) (he : PE X e ta) (hb : attributeBase e f X.env (eval e X.env) = eval e X.env) : PE X (.Attribute e f pos) (tFld K ta f) := by
  subst hK
  exact pe_fld he hb
def scIn2 (y y2 : Str) (more : List (Str × NameKind)) : Scope := { kind := .function, names := (Str.ofString ".0", .local) :: (y, .local) :: (y2, .local) :: more, isGenerator := false, isCoroutine := false }
/-- lists of texts, new ones -/
structure KindsAt (H0 H : Hp) (x : Addr) (ks : List (List Str)) : Prop where
  ex : ∃ rs : List (Addr × List Str), H x = some (.lst (rs.map fun r => V.ref r.1)) ∧ rs.map Prod.snd = ks ∧ (∀ r ∈ rs, H r.1 = some (.lst (r.2.map V.str)) ∧ r.1 ≠ x) ∧ (rs.map Prod.fst).Nodup ∧ ∀ b o, H0 b = some o → (∀ ps, o ≠ .tbl ps) → b ≠ x ∧ ∀ r ∈ rs, b ≠ r.1
theorem ProgAt.ext {C : Addr} {H H' : Hp} {p : Addr} {z : Str} {ns : List Nd} (h : ProgAt C H p z ns) (s : ExtN H H') : ProgAt C H' p z ns := by
  obtain ⟨dx, t, h1, h2⟩ := h
  exact ⟨dx, t, s _ _ h1 (by intro ps z; cases z), NodesAt.tups h2 fun c ys e => s _ _ e (by intro ps z; cases z)⟩
theorem ThrAt.ext {C : Addr} {K : PySem.W.Frag} {H H' : Hp} {l : Addr} {ps : List (Addr × Str × List Nd)} (h : ThrAt C K H l ps) (s : ExtN H H') : ThrAt C K H' l ps := ⟨Vf.SqL.ext h.1 s, fun q hq => ProgAt.ext (h.2 q hq) s⟩
theorem marks_take {ss : List Wt} {rows : List Rw} {i : Nat} {q : Wt} {r : Rw} (hq : ss[i]? = some q) (hr : rows[i]? = some r) : marks ((ss.zip rows).take (i + 1)) = marks ((ss.zip rows).take i) ++ r.2.map (markOf q) := by
  have h : (ss.zip rows)[i]? = some (q, r) := by
    rw [List.getElem?_zip_eq_some]
    exact ⟨hq, hr⟩
  rw [List.take_add_one, h]
  unfold marks
  rw [List.flatMap_append]
  simp
noncomputable def kindsOf (ls : List (List Str)) (es : List (List Nd)) (k0 : NK) : List (List Str) := es.zipIdx.map fun p => (List.range p.1.length).map (kindOf ls es k0 p.2)
abbrev k0Of (ls : List (List Str)) (es : List (List Nd)) : NK := stK (es.map fun _ => some 0) (ls.map fun _ => ([], false))
section
variable {P : Program} {w : World} {K : PySem.W.Frag} {mg : Str → Option Value} {base : Heap}
def sp_node_kinds (K : PySem.W.Frag) (C CP Tb : Addr) : Sp := fun vs H Q _ => ∃ (p sd nd l : Addr) (cs : List (Str × Nat)) (r : Nat) (ls : List (List Str)) (ps : List (Addr × Str × List Nd)), vs = [.ref p, .ref l] ∧ Fit C CP K H p sd nd l cs r ls ps ∧ Tabs (tabE Tb) H ∧
  (∃ S, ClosedF ls (ps.map fun q => q.2.2) (k0Of ls (ps.map fun q => q.2.2)) S ∧ S.length ≤ 1000) ∧
  ∀ x H', ExtN H H' → Tabs (tabE Tb) H' → KindsAt H H' x (kindsOf ls (ps.map fun q => q.2.2) (k0Of ls (ps.map fun q => q.2.2))) → Q (.ref x) H'
theorem ok_node_kinds {f fe C CP CG CT Tb : Addr} {fd fde : FuncData} {ds : List Value} (F : Fun K "node_kinds" "node_kinds" s_node_kinds f fd) (T : Txt0 K mg) (TP : TxtP K mg CP) (TG : TxtG K mg CG)
    (GX : FnOk P w K mg base (L2.CX P w) 7 fe fde p_explored (sp_explored K C CP CG CT Tb)) (hme : mg "explored" = some (.ref fe)) (hke : PySem.W.keepIn K (.ref fe) = true) (hbe : Binds K fde p_explored ds) (hd : Vals [.int 1000] ds) (GK : OkF P w K mg base CX0 "_kind" p_kind 1 sp_kind) :
    FnOk P w K mg base CX0 8 f fd p_node_kinds (sp_node_kinds K C CP Tb) := by
  refine F.ok sc_node_kinds (fun vs H Q E h => ?_) (fun cdv A outer s H vs Q E hr h => ?_)
  · obtain ⟨p, sd, nd, l, cs, r, ls, ps, rfl, _⟩ := h
    rfl
  · obtain ⟨p, sd, nd, l, cs, r, ls, ps, rfl, fit, tb, ⟨S0, hS0, lS0⟩, kQ⟩ := h
    have hr1 : Room 1 _ := hr.mono (by decide)
    refine ⟨_, pss_cons (ps_set (i := 2) sc_node_kinds.nd rfl (Or.inl rfl) (pe_callSD (E := fun _ => E0) GX hr rfl hme hke hbe hd (fun _ => fun _ _ _ _ _ _ h => by
          obtain ⟨_, _, _, _, _, _, _, _, _, _, _, _, hE⟩ := h
          exact hE.elim) (pa_cons (pv 0) (pa_cons (pv 1) pa_nil))))
      (pss_cons (ps_setLc (i := 3) (own := [("program", 11)]) (g := gName 11) (tt := tYes) rfl sc_node_kinds.nd rfl rfl (sw_true rfl rfl rfl (by decide +kernel)) (pi_list (pv 1)) (blkOk_by (N := n_node_kinds) (sc := defScope s_node_kinds) (by decide +kernel)) (fun _ _ _ _ _ => pg_name (i := 11) sc_node_kinds.nd rfl (Or.inl rfl)) (fun _ _ _ _ _ => pts_nil)
        (fun _ _ _ _ _ => pe_op op_rep (pe_lst (pa_cons pe_bl pa_nil)) (pe_callB (cr_len (K := K) rfl) (by rfl) T.len PySem.boot_len (pa_cons (pe_fldK K rfl (pv 11) rfl) pa_nil))))
      (pss_cons (ps_setLc (i := 4) (own := [("program", 11)]) (g := gName 11) (tt := tYes) rfl sc_node_kinds.nd rfl rfl (sw_true rfl rfl rfl (by decide +kernel)) (pi_list (pv 1)) (blkOk_by (N := n_node_kinds) (sc := defScope s_node_kinds) (by decide +kernel)) (fun _ _ _ _ _ => pg_name (i := 11) sc_node_kinds.nd rfl (Or.inl rfl)) (fun _ _ _ _ _ => pts_nil)
        (fun _ _ _ _ _ => pe_op op_rep (pe_lst (pa_cons pe_bl pa_nil)) (pe_callB (cr_len (K := K) rfl) (by rfl) T.len PySem.boot_len (pa_cons (pe_fldK K rfl (pv 11) rfl) pa_nil))))
      (pss_cons (ps_for PassesOwn.never rfl (pi_zip (by rfl) T.zip (pa_cons (pe_fld (pv 2) rfl) (pa_cons (pe_fld (pv 2) rfl) pa_nil))) (pg_tup (by rfl) (pgs_cons (pg_name (i := 5) sc_node_kinds.nd rfl (Or.inl rfl)) (pgs_cons (pg_name (i := 6) sc_node_kinds.nd rfl (Or.inl rfl)) pgs_nil)))
        (pss_one (ps_for PassesOwn.never rfl (pi_list (pv 6)) (pg_tup (by rfl) (pgs_cons (pg_name (i := 7) sc_node_kinds.nd rfl (Or.inl rfl)) (pgs_cons (pg_name (i := 8) sc_node_kinds.nd rfl (Or.inl rfl)) (pgs_cons (pg_name (i := 9) sc_node_kinds.nd rfl (Or.inl rfl)) (pgs_cons (pg_name (i := 8) sc_node_kinds.nd rfl (Or.inl rfl)) pgs_nil)))))
          (pss_cons (ps_set (i := 10) sc_node_kinds.nd rfl (Or.inl rfl) (pe_cut (pe_ifExp (pt_cmpR op_eq (pv 9) pe_int (nomark _)) (pv 3) (pv 4))))
          (pss_one (ps_asg pe_bl (pg_sub (pe_ix ix_list (pv 10) (pv 7) (fun _ _ => rfl)) (pe_ix ix_tup (pe_ix ix_tup (pv 5) pe_int (fun _ _ => rfl)) (pv 7) (fun _ _ => rfl)) set_list)))))))
      (pss_one (ps_ret (pe_lc (own := [("of_free", 12), ("of_paid", 13)]) (g := gTup K 2 (gCons (gName 12) (gCons (gName 13) gNil))) (tt := tYes) rfl sc_node_kinds.nd (pi_zip (by rfl) T.zip (pa_cons (pv 3) (pa_cons (pv 4) pa_nil))) (blkOk_by (N := n_node_kinds) (sc := defScope s_node_kinds) (by decide +kernel))
        (fun _ _ _ _ _ => pg_tup (by rfl) (pgs_cons (pg_name (i := 12) sc_node_kinds.nd rfl (Or.inl rfl)) (pgs_cons (pg_name (i := 13) sc_node_kinds.nd rfl (Or.inl rfl)) pgs_nil))) (fun _ _ _ _ _ => pts_nil)
        (fun _ _ _ _ _ => pe_lc (wi := iZip K (tCons (tVar 12) (tCons (tVar 13) tNil))) (own := [("is_free", 14), ("is_paid", 15)]) (g := gTup K 2 (gCons (gName 14) (gCons (gName 15) gNil))) (tt := tYes) rfl sc_node_kinds.nd (pi_zip (by rfl) T.zip (pa_cons (pv 12) (pa_cons (pv 13) pa_nil))) (blkIn (N := n_node_kinds) (sc := scIn2 "of_free" "of_paid" [("zip", .globalImplicit)]) (by decide +kernel) (by rfl))
          (fun _ _ _ _ _ => pg_tup (by rfl) (pgs_cons (pg_name (i := 14) sc_node_kinds.nd rfl (Or.inl rfl)) (pgs_cons (pg_name (i := 15) sc_node_kinds.nd rfl (Or.inl rfl)) pgs_nil))) (fun _ _ _ _ _ => pts_nil)
          (fun _ _ _ _ _ => pe_fn GK hr1 rfl pass0 (pa_cons (pv 14) (pa_cons (pv 15) pa_nil)))))))))), ?_⟩
    refine ⟨_, rfl, _, rfl, p, sd, nd, l, cs, r, ls, ps, 1000, rfl, fit, by decide, by decide, tb, fun g S T' ss rows H1 e1 t1 hg hex hle => ?_, fun hbig H' _ _ => absurd (hbig S0 hS0) (by omega)⟩
    have thr1 := Vf.ThrAt.ext fit.thr e1
    have hfew := fit.few
    have sm100 : ∀ q ∈ ps, q.2.2.length ≤ 100 := fun q hq => (fit.nodes q hq).1
    refine mk_tab TP thr1 fit.few sm100 rfl (fun _ => rfl) (fun _ => rfl) fun aF asF H2 haF s2 eF lF nF frF roF => ?_
    refine mk_tab TP (Vf.ThrAt.same thr1 s2) fit.few sm100 rfl (fun _ => rfl) (fun _ => rfl) fun aP asP H3 haP s3 eP lP nP frP roP => ?_
    have s13 := s2.trans s3
    have hF2 : ∀ b ∈ asF, H2 b ≠ none := fun b hb e => by
      obtain ⟨th, hth⟩ := List.getElem?_of_mem hb
      have hl := (List.getElem?_eq_some_iff.mp hth).1
      have := roF th b _ hth (List.getElem?_eq_getElem (by omega))
      rw [e] at this
      cases this
    have ok : TabsOk H1 aF aP asF asP := ⟨nF, nP, fun h => (frF aF h).2 rfl, fun h => (frP aP h).2 rfl, fun h => absurd (eF.symm.trans (frP aF h).1) nofun, fun h => hF2 aP h haP, fun b hb hb' => hF2 b hb (frP b hb').1, fun b hb => (frF b hb).1, fun b hb => s2.free (frP b hb).1⟩
    have tF0 : TabAt true H3 aF asF (ps.map fun q => q.2.2.length) [] := ⟨s3 _ _ eF, by rw [lF, List.length_map], fun th b n h1 h2 => by
      rw [List.getElem?_map] at h2
      obtain ⟨q, hq, rfl⟩ := Option.map_eq_some_iff.mp h2
      rw [tabRow_none]
      exact s3 _ _ (roF th b q h1 hq)⟩
    have tP0 : TabAt false H3 aP asP (ps.map fun q => q.2.2.length) [] := ⟨eP, by rw [lP, List.length_map], fun th b n h1 h2 => by
      rw [List.getElem?_map] at h2
      obtain ⟨q, hq, rfl⟩ := Option.map_eq_some_iff.mp h2
      rw [tabRow_none]
      exact roP th b q h1 hq⟩
    have hex3 := hex.same s13
    obtain ⟨dxg, eg⟩ := hg
    have eg3 := s13 _ _ eg
    clear haF s2 eF frF roF haP s3 eP frP roP
    generalize hes : (ps.map fun q => q.2.2) = es at *
    have les : es.length = ps.length := by rw [← hes, List.length_map]
    have lenat : ∀ th, th < es.length → (ps.map fun q => q.2.2.length)[th]? = some (es.getD th []).length := fun th h => by
      obtain ⟨q, hq⟩ : ∃ q, ps[th]? = some q := ⟨_, List.getElem?_eq_getElem (by omega)⟩
      rw [List.getElem?_map, hq, ← hes, List.getD_eq_getElem?_getD, List.getElem?_map, hq]
      rfl
    refine ⟨_, rfl, g, CG, dxg, _, _, rfl, eg3, TG.cl, TG.nS, gflds_states _ _, _, rfl, g, CG, dxg, _, _, rfl, eg3, TG.cl, TG.nT, gflds_steps _ _, S, T', _, _, rfl, SqL.of hex3.sl, SqL.of hex3.tl, for_it (walk_zip (K := K) (a := S) (b := T') (xs := ss.map fun q => V.ref q.1) (ys := rows.map fun r => V.ref r.1) (n := ss.length) (by rw [List.length_map, List.length_map, hex.len, Nat.min_self])) (fun i σ H' => ∃ (v5 v6 v7 v8 v9 v10 v11 v12 v13 v14 v15 : Option V), σ = [some (.ref p), some (.ref l), some (.ref g), some (.ref aF), some (.ref aP), v5, v6, v7, v8, v9, v10, v11, v12, v13, v14, v15] ∧
        Same H1 H' ∧ TabAt true H' aF asF (ps.map fun q => q.2.2.length) (marks ((ss.zip rows).take i)) ∧ TabAt false H' aP asP (ps.map fun q => q.2.2.length) (marks ((ss.zip rows).take i)))
      ⟨_, _, _, _, _, _, _, _, _, _, _, rfl, s13, tF0, tP0⟩ (fun i σ H' _ ⟨_, _, _, _, _, _, _, _, _, _, _, _, s, _⟩ => ⟨SqL.of (s _ _ hex.sl), SqL.of (s _ _ hex.tl)⟩) ?_ ?_⟩
    · rintro i x σ H4' H4 hi ⟨v5, v6, v7, v8, v9, v10, v11, v12, v13, v14, v15, rfl, s4, tF4, tP4⟩ ⟨TT, x1, x2, rfl, hTT, rfl, hx1, hx2⟩
      have hq : ss[i]? = some ss[i] := List.getElem?_eq_getElem hi
      generalize ss[i] = q at hq
      have hr : rows[i]? = some (rows[i]'(by rw [hex.len]; exact hi)) := List.getElem?_eq_getElem (by rw [hex.len]; exact hi)
      generalize rows[i]'(by rw [hex.len]; exact hi) = r0 at hr
      replace hx1 : (ss.map fun q => V.ref q.1)[i]? = some x1 := hx1
      replace hx2 : (rows.map fun r => V.ref r.1)[i]? = some x2 := hx2
      rw [List.getElem?_map, hq] at hx1
      rw [List.getElem?_map, hr] at hx2
      obtain rfl : V.ref q.1 = x1 := Option.some.inj hx1
      obtain rfl : V.ref r0.1 = x2 := Option.some.inj hx2
      have ri := hex.ri i q r0 hq hr
      have hrm := List.mem_of_getElem? hr
      have hqm := List.mem_of_getElem? hq
      obtain ⟨stq, okq⟩ := hex.st q hqm
      have sT := same_new (o := .tup [.ref q.1, .ref r0.1]) hTT
      have eT : (upd H4' TT (.tup [.ref q.1, .ref r0.1])) TT = some (.tup [.ref q.1, .ref r0.1]) := upd_same
      have s5 := s4.trans sT
      have tF5 := tF4.same sT
      have tP5 := tP4.same sT
      generalize upd H4' TT (.tup [.ref q.1, .ref r0.1]) = H5 at s5 tF5 tP5 eT ⊢
      refine ⟨TT, _, rfl, SqT.of eT, rfl, _, _, rfl, _, _, rfl, rfl, ?_⟩
      refine ⟨_, rfl, r0.1, rfl, ⟨_, SqL.of (s5 _ _ (hex.rw r0 hrm).at_)⟩, for_it (walk_list (K := K) (a := r0.1) (xs := r0.2.map fun e => V.ref e.1)) (fun j σ H' => ∃ (v7 v8 v9 v10 : Option V), σ = [some (.ref p), some (.ref l), some (.ref g), some (.ref aF), some (.ref aP), some (.ref q.1), some (.ref r0.1), v7, v8, v9, v10, v11, v12, v13, v14, v15] ∧
          Same H1 H' ∧ TabAt true H' aF asF (ps.map fun q => q.2.2.length) (marks ((ss.zip rows).take i) ++ (r0.2.take j).map (markOf q)) ∧ TabAt false H' aP asP (ps.map fun q => q.2.2.length) (marks ((ss.zip rows).take i) ++ (r0.2.take j).map (markOf q)))
        ⟨_, _, _, _, rfl, s5, by rw [List.take_zero, List.map_nil, List.append_nil]; exact tF5, by rw [List.take_zero, List.map_nil, List.append_nil]; exact tP5⟩ (fun j σ H' _ ⟨_, _, _, _, _, s, _⟩ => SqL.of (s _ _ (hex.rw r0 hrm).at_)) ?_ ?_⟩
      · rintro j y σ H6' H6 hj ⟨v7, v8, v9, v10, rfl, s6, tF6, tP6⟩ ⟨rfl, hy⟩
        rw [List.length_map] at hj
        have hej : r0.2[j]? = some r0.2[j] := List.getElem?_eq_getElem hj
        generalize r0.2[j] = e at hej
        rw [List.getElem?_map, hej] at hy
        obtain rfl : V.ref e.1 = y := Option.some.inj hy
        have hem := List.mem_of_getElem? hej
        have eE := s6 _ _ ((hex.rw r0 hrm).each e hem)
        have hje : (r0.2.map Prod.snd)[j]? = some e.2 := by rw [List.getElem?_map, hej]; rfl
        have hjs : j < (stepsM ls es q.2.1 q.2.2).length := by
          rw [← ri.1]
          exact (List.getElem?_eq_some_iff.mp hje).1
        obtain ⟨f1, _, _, _⟩ := ri.2 j _ e.2 (List.getElem?_eq_getElem hjs) hje
        obtain ⟨n, hpn⟩ := step_place (List.getElem_mem hjs)
        rw [← f1] at hpn
        have hnode : nodeAt q.2.1 e.2.1 = n := by
          unfold nodeAt
          rw [hpn]
          rfl
        have hthl : e.2.1 < es.length := by
          rw [← okq.pls]
          exact (List.getElem?_eq_some_iff.mp hpn).1
        have hnl := okq.pin _ _ hpn
        refine ⟨e.1, _, rfl, SqT.of eE, rfl, _, _, rfl, _, _, rfl, _, _, rfl, _, _, rfl, rfl, ?_⟩
        obtain ⟨b, ys, m1, m2, m3, m4, m5, m6, m7⟩ := mark_step (v := markOf q e) ok s6 tF6 tP6 (lenat _ hthl)
        refine ⟨fun v H' => v = .ref (if decide (e.2.2.2.1 = 0) = true then aF else aP) ∧ H' = H6, ?_, ?_⟩
        · refine ⟨_, rfl, rfl, _, rfl, ?_⟩
          by_cases hz : e.2.2.2.1 = 0
          · rw [decide_eq_true (p := V.int (e.2.2.2.1 : Int) = V.int 0) (by rw [hz]; rfl)]
            refine iteT ⟨_, rfl, ?_, rfl⟩
            rw [decide_eq_true hz, if_pos rfl]
          · rw [decide_eq_false (p := V.int (e.2.2.2.1 : Int) = V.int 0) (fun z => hz (by have := V.int.inj z; omega))]
            refine iteF ⟨_, rfl, ?_, rfl⟩
            rw [decide_eq_false hz, if_neg Bool.false_ne_true]
        · rintro _ _ ⟨rfl, rfl⟩
          obtain ⟨t, u, st1, st2, _⟩ := stq.same s6
          refine ⟨_, rfl, _, rfl, _, _, _, _, rfl, rfl, SqL.of m1, atI_nat (j := e.2.1) (by rw [List.getElem?_map]; exact congrArg (Option.map V.ref) m2), _, rfl, q.1, _, 0, _, rfl, rfl, st1, rfl, _, rfl, t, _, _, _, rfl, rfl, st2, atI_nat (j := e.2.1) (by rw [List.getElem?_map, hpn]; rfl), b, _, (n : Int), n, rfl, rfl, m3, ixN_nat (by rw [m4]; exact hnl), ?_⟩
          have tk : (r0.2.take (j + 1)).map (markOf q) = (r0.2.take j).map (markOf q) ++ [markOf q e] := by
            rw [List.take_add_one, hej, List.map_append]
            rfl
          rw [show (markOf q e).2.1 = n from hnode] at m5 m6 m7
          refine ⟨_, _, _, _, rfl, m5, ?_, ?_⟩
          · rw [tk, ← List.append_assoc]
            exact m6
          · rw [tk, ← List.append_assoc]
            exact m7
      · rintro σ H6 ⟨v7, v8, v9, v10, rfl, s6, tF6, tP6⟩
        rw [List.length_map, List.take_length, ← marks_take hq hr] at tF6 tP6
        exact ⟨_, _, _, _, _, _, _, _, _, _, _, rfl, s6, tF6, tP6⟩
    · rintro σ H4 ⟨v5, v6, v7, v8, v9, v10, v11, v12, v13, v14, v15, rfl, s4, tF4, tP4⟩
      rw [List.take_of_length_le (by rw [List.length_zip, hex.len, Nat.min_self]; exact Nat.le_refl _)] at tF4 tP4
      have lFP : asF.length = asP.length := by rw [lF, lP]
      have fin : ∀ (D : Addr) (H' : Hp) (rs : List (Addr × List Str)), H4 D = none → Same H4 H' → H' D = some (.lst (rs.map fun r => V.ref r.1)) → rs.length = asF.length → (rs.map Prod.fst).Nodup → (∀ r ∈ rs, H4 r.1 = none ∧ r.1 ≠ D ∧ H' r.1 = some (.lst (r.2.map V.str))) → (∀ (th : Nat) (r : Addr × List Str), rs[th]? = some r → r.2 = (List.range (es.getD th []).length).map (kindOf ls es (k0Of ls es) th)) → Q (.ref D) H' := fun D H' rs hD s' eD lrs ndr hrs hk => by
        refine kQ D H' (e1.trans (ExtN.of (s4.trans s'))) (t1.ext (s4.trans s')) ⟨rs, eD, ?_, fun r hr => ⟨(hrs r hr).2.2, (hrs r hr).2.1⟩, ndr, fun b o hb hn => ?_⟩
        · refine List.ext_getElem? fun th => ?_
          unfold kindsOf
          rw [List.getElem?_map, List.getElem?_map, List.getElem?_zipIdx]
          by_cases hth : th < es.length
          · obtain ⟨r, hr⟩ : ∃ r, rs[th]? = some r := ⟨_, List.getElem?_eq_getElem (by omega)⟩
            obtain ⟨ns, hns⟩ : ∃ ns, es[th]? = some ns := ⟨_, List.getElem?_eq_getElem hth⟩
            rw [hr, hns]
            have e1 := hk th r hr
            rw [List.getD_eq_getElem?_getD, hns] at e1
            show some r.2 = some ((List.range ns.length).map (kindOf ls es (k0Of ls es) (0 + th)))
            rw [e1, Nat.zero_add]
            rfl
          · rw [List.getElem?_eq_none (by omega), List.getElem?_eq_none (by omega)]
            rfl
        · have h4 := s4 _ _ (e1 _ _ hb hn)
          exact ⟨fun z => (by rw [z, hD] at h4; cases h4), fun r hr z => (by rw [z, (hrs r hr).1] at h4; cases h4)⟩
      refine ⟨_, rfl, _, rfl, aF, aP, _, _, rfl, SqL.of tF4.at_, SqL.of tP4.at_, fun D hD => lc_it (walk_zip (K := K) (a := aF) (b := aP) (xs := asF.map V.ref) (ys := asP.map V.ref) (n := asF.length) (by rw [List.length_map, List.length_map, lFP, Nat.min_self])) (fun y H' => ∃ rs : List (Addr × List Str), Same H4 H' ∧ H' D = some (.lst (rs.map fun r => V.ref r.1)) ∧ rs.length = y ∧ (rs.map Prod.fst).Nodup ∧ (∀ r ∈ rs, H4 r.1 = none ∧ r.1 ≠ D ∧ H' r.1 = some (.lst (r.2.map V.str))) ∧
          ∀ (th : Nat) (r : Addr × List Str), rs[th]? = some r → r.2 = (List.range (es.getD th []).length).map (kindOf ls es (k0Of ls es) th))
        ⟨[], same_new hD, upd_same, rfl, List.nodup_nil, (fun r hr => nomatch hr), fun th r hr => by cases hr⟩ (fun y H' _ ⟨_, s, _⟩ => ⟨SqL.of (s _ _ tF4.at_), SqL.of (s _ _ tP4.at_)⟩) ?_ ?_⟩
      · rintro y x H5' H5 hy ⟨rs, s5, eD5, lrs, ndr, hrs, hk⟩ ⟨TT, x1, x2, rfl, hTT, rfl, hx1, hx2⟩
        obtain ⟨bF, hbF⟩ : ∃ b, asF[y]? = some b := ⟨_, List.getElem?_eq_getElem hy⟩
        obtain ⟨bP, hbP⟩ : ∃ b, asP[y]? = some b := ⟨_, List.getElem?_eq_getElem (by omega)⟩
        replace hx1 : (asF.map V.ref)[y]? = some x1 := hx1
        replace hx2 : (asP.map V.ref)[y]? = some x2 := hx2
        rw [List.getElem?_map, hbF] at hx1
        rw [List.getElem?_map, hbP] at hx2
        obtain rfl : V.ref bF = x1 := Option.some.inj hx1
        obtain rfl : V.ref bP = x2 := Option.some.inj hx2
        have hye : y < es.length := by omega
        have rowF := tF4.row y bF _ hbF (lenat y hye)
        have rowP := tP4.row y bP _ hbP (lenat y hye)
        have sT := same_new (o := .tup [.ref bF, .ref bP]) hTT
        have eT : (upd H5' TT (.tup [.ref bF, .ref bP])) TT = some (.tup [.ref bF, .ref bP]) := upd_same
        have s6 := s5.trans sT
        have eD6 := sT _ _ eD5
        have hrs6 : ∀ r ∈ rs, H4 r.1 = none ∧ r.1 ≠ D ∧ (upd H5' TT (.tup [.ref bF, .ref bP])) r.1 = some (.lst (r.2.map V.str)) := fun r hr => ⟨(hrs r hr).1, (hrs r hr).2.1, sT _ _ (hrs r hr).2.2⟩
        generalize upd H5' TT (.tup [.ref bF, .ref bP]) = H6 at s6 eT eD6 hrs6 ⊢
        clear hrs eD5 s5 sT
        have llen : (es.getD y []).length ≤ 100 := by
          obtain ⟨q, hq⟩ : ∃ q, ps[y]? = some q := ⟨_, List.getElem?_eq_getElem (by omega)⟩
          rw [← hes, List.getD_eq_getElem?_getD, List.getElem?_map, hq]
          exact sm100 q (List.mem_of_getElem? hq)
        generalize hlen : (es.getD y []).length = len at rowF rowP llen
        refine ⟨TT, _, rfl, SqT.of eT, rfl, _, _, rfl, _, _, rfl, rfl, rfl, ?_⟩
        rw [show ∀ σ H Q, tYes σ H Q = Q true H from fun _ _ _ => rfl]
        rw [if_pos rfl]
        refine ⟨_, rfl, _, rfl, bF, bP, _, _, rfl, SqL.of (s6 _ _ rowF), SqL.of (s6 _ _ rowP), fun L hL => lc_mp (List.range len) (walk_zip (K := K) (a := bF) (b := bP) (xs := tabRow true (marks (ss.zip rows)) y len) (ys := tabRow false (marks (ss.zip rows)) y len) (n := (List.range len).length) (by rw [tabRow_len, tabRow_len, List.length_range, Nat.min_self])) hL (fun n => V.str (kindZ (visB true (marks (ss.zip rows)) y n) (visB false (marks (ss.zip rows)) y n))) (by rw [List.length_range]; omega) (fun H7 s7 => ⟨SqL.of (s7 _ _ (s6 _ _ rowF)), SqL.of (s7 _ _ (s6 _ _ rowP))⟩) ?_ ?_⟩
        · rintro n a x H7 H8 ha s7 ⟨TT2, x1, x2, rfl, hT2, rfl, h1, h2⟩ R hR
          have hn : n < len := by
            have := (List.getElem?_eq_some_iff.mp ha).1
            rwa [List.length_range] at this
          rw [List.getElem?_range hn] at ha
          obtain rfl := Option.some.inj ha
          replace h1 : (tabRow true (marks (ss.zip rows)) y len)[n]? = some x1 := h1
          replace h2 : (tabRow false (marks (ss.zip rows)) y len)[n]? = some x2 := h2
          rw [tabRow_get hn] at h1 h2
          obtain rfl := Option.some.inj h1
          obtain rfl := Option.some.inj h2
          exact ⟨TT2, _, rfl, SqT.of upd_same, rfl, _, _, rfl, _, _, rfl, rfl, rfl, _, rfl, _, rfl, _, _, rfl, hR _ (same_new hT2)⟩
        · intro H7 s7 hL7
          have hLD : L ≠ D := (ne_of_none eD6 hL).symm
          have hLr : ∀ r ∈ rs, r.1 ≠ L := fun r hr => ne_of_none (hrs6 r hr).2.2 hL
          refine ⟨_, s7 _ _ eD6, by rw [List.length_map, sizeLine_eq]; omega, rs ++ [(L, (List.range len).map (kindOf ls es (k0Of ls es) y))], same_upd (s6.trans s7) hD, by rw [upd_same, List.map_append]; rfl, by rw [List.length_append, lrs]; rfl, ?_, fun r hr => ?_, fun th r hr => ?_⟩
          · rw [List.map_append]
            refine List.nodup_append.mpr ⟨ndr, by simp, fun a ha b hb e => ?_⟩
            obtain ⟨r, hr, rfl⟩ := List.mem_map.mp ha
            exact hLr r hr (e.trans (List.mem_singleton.mp hb))
          · rcases List.mem_append.mp hr with hr | hr
            · obtain ⟨a1, a2, a3⟩ := hrs6 r hr
              exact ⟨a1, a2, by rw [upd_ne a2]; exact s7 _ _ a3⟩
            · rw [List.mem_singleton.mp hr]
              refine ⟨s6.free hL, hLD, ?_⟩
              rw [upd_ne hLD, hL7, List.map_map]
              refine congrArg (fun z => some (HO.lst z)) (List.map_congr_left fun n _ => ?_)
              exact congrArg V.str (marks_kind hex y n)
          · by_cases hth : th < rs.length
            · rw [List.getElem?_append_left hth] at hr
              exact hk th r hr
            · have hh := (List.getElem?_eq_some_iff.mp hr).1
              rw [List.length_append, List.length_singleton] at hh
              obtain rfl : th = rs.length := by omega
              rw [List.getElem?_append_right (Nat.le_refl _), Nat.sub_self] at hr
              obtain rfl := Option.some.inj hr
              rw [lrs, hlen]
      · rintro H5 ⟨rs, s5, eD5, lrs, ndr, hrs, hk⟩
        exact fin D H5 rs hD s5 eD5 lrs ndr hrs hk
end
end Vf

set_option maxRecDepth 100000
set_option maxHeartbeats 4000000
namespace Vf
open PySem PySem.Spec PyProof.Rows L2
def rIxNF (P : Program) (w : World) : R2 := fun x y H Q => ∃ a b o kvs xs k v, x = .ref a ∧ y = .ref b ∧ H a = some (.frz o (NDo P w a xs)) ∧ KN H kvs xs ∧ NestH H b k ∧ valV kvs k = some v ∧ Q v H
theorem pe_dgetNF {X : Cx} {o i : Expr} {pos : Pos} {td ty : TE} (hu : X.A.units + 16 < cLine) (ho : PE X o td) (hi : PE X i ty) (hs : NoSl i) : PE X (.Subscript o i pos) (tOp (rIxNF X.prog X.w) td ty) := by
  refine ⟨fun pins s σ H Q I h => ?_⟩
  refine subD_of PySem.F.slot_dict_getitem.lookup hs (thn (ho.run pins s σ H _ I h) fun u s1 ⟨x, H1, I1, rx, q1⟩ => thn (hi.run pins s1 σ H1 _ I1 q1) fun iv s2 ⟨y, H2, I2, ry, a, b, ob, kvs, xs, k, z, ex, ey, hd, rel, hk, l, q2⟩ => ?_)
  subst ex ey
  obtain rfl : u = Value.ref a := rx
  obtain rfl : iv = Value.ref b := ry
  obtain ⟨hg, ⟨o', es, ep, ho', hx, hdt, he, hnd⟩, _⟩ := I2.hok a _ hd
  have dd : s2.heap.DictOfH (nk X.prog X.w) a xs := ⟨o', es, ep, ho', hx, hdt, he, KN.is I2.hok rel, hnd⟩
  obtain ⟨w', hw, rw'⟩ := RelO.some_of (v := z) (o := (atKey xs k).map (·.2)) (by rw [← l]; exact KN.val rel k)
  obtain ⟨p, hp, hp2⟩ := Option.map_eq_some_iff.mp hw
  refine ⟨dd.typeIs, wpAny_getItem_heap (knd := nk X.prog X.w) (by show X.A.units + 1 + 8 < cLine; omega) (hk.is I2.hok) dd hp ?_⟩
  rw [hp2]
  exact ⟨z, H2, I2.tok _, rw', q2⟩
end Vf

set_option maxRecDepth 100000
set_option maxHeartbeats 16000000
namespace Vf
open PySem PySem.Spec PyProof.Rows L2
theorem eqv_noL {ds : List PyData} : PyData.eqv (.list ds) (.list []) = decide (ds = []) := by
  cases ds <;> simp [PyData.eqv, PyData.eqvAll]
theorem shaped_nil : SeqAt.shaped (.list []) = true := by decide +kernel
theorem sh_nats {ms : List Nat} (h1 : ∀ m ∈ ms, m ≤ 1) : shD (.list (ms.map fun m : Nat => PyData.int (m : Int))) = true ∧ (PyData.list (ms.map fun m : Nat => PyData.int (m : Int))).depth ≤ 64 := by
  have sm : ∀ m ∈ ms, shD (.int (m : Int)) = true ∧ (PyData.int (m : Int)).depth ≤ 0 := fun m hm => by
    obtain ⟨a, b, c⟩ := sh_nat (n := m) (Nat.lt_of_le_of_lt (h1 m hm) (by decide))
    exact ⟨a, Nat.le_of_eq c⟩
  have a := shAll_map (f := fun m : Nat => PyData.int (m : Int)) (l := ms) fun x hx => (sm x hx).1
  have c := depthAll_map (f := fun m : Nat => PyData.int (m : Int)) (n := 0) (l := ms) fun x hx => (sm x hx).2
  rw [shD, a, PyData.depth]
  exact ⟨rfl, by omega⟩
theorem step_mv {ls : List (List Str)} {es : List (List Nd)} {pl : List (Option Nat)} {held : List Ln} {s : Step} (h : s ∈ stepsM ls es pl held) : s.2.2.1 ≤ 1 := by
  obtain ⟨th, i, n, g, h1, h2, h3, h4, rfl⟩ := step_of h
  exact touch_mv
theorem val_memN {kvs : List (NK × V)} {k : NK} {v : V} (hn : (kvs.map Prod.fst).Nodup) (h : (k, v) ∈ kvs) : valV kvs k = some v := by
  induction kvs with
  | nil => cases h
  | cons p kvs ih =>
    rw [List.map_cons, List.nodup_cons] at hn
    rcases List.mem_cons.mp h with h | h
    · subst h
      exact valV_pos rfl
    · have hne : p.1 ≠ k := fun e => hn.1 (e ▸ List.mem_map_of_mem (f := Prod.fst) h)
      rw [valV_neg hne]
      exact ih hn.2 h
theorem filter_map_ite {α β : Type} {l : List α} {p : α → Bool} {f : α → β} : (l.filterMap fun a => if p a = true then some (f a) else none) = (l.filter p).map f := by
  induction l with
  | nil => rfl
  | cons a l ih =>
    rw [List.filterMap_cons, List.filter_cons]
    by_cases h : p a = true
    · rw [if_pos h, if_pos h, List.map_cons, ih]
    · rw [if_neg h, if_neg h, ih]
/-- moves seen tell the kind -/
structure Seen (ls : List (List Str)) (es : List (List Nd)) (kvs : List (NK × V)) (th n i : Nat) (ms : List Nat) : Prop where
  small : ∀ m ∈ ms, m ≤ 1
  wit : ∀ m ∈ ms, ∃ pl held, OkSt es ls pl held ∧ stK pl held ∈ kvs.map Prod.fst ∧ pl[th]? = some (some n) ∧ ∃ s ∈ stepsM ls es pl held, s.1 = th ∧ s.2.2.1 = m
  all : ∀ (j : Nat) (kv : NK × V) pl held, j < i → kvs[j]? = some kv → kv.1 = stK pl held → pl[th]? = some (some n) → ∀ s ∈ stepsM ls es pl held, s.1 = th → s.2.2.1 ∈ ms
  few : ms.length ≤ i * 400
open Classical in
theorem Seen.kind {P : Program} {w : World} {H : Hp} {a : Addr} {ls : List (List Str)} {es : List (List Nd)} {kvs : List (NK × V)} {xs : List (NK × Addr × Value)} {th n : Nat} {ms : List Nat} (g : GraphAt P w H a es ls kvs xs) (h : Seen ls es kvs th n kvs.length ms) :
    kindOf ls es (k0Of ls es) th n = kindZ (decide (0 ∈ ms)) (decide (1 ∈ ms)) := by
  have key : ∀ z m, m ≤ 1 → (decide (m = 0) == z) = true → (FreeP z ls es (k0Of ls es) th n ↔ m ∈ ms) := fun z m hm hz => by
    constructor
    · rintro ⟨pl, held, ⟨ok, hre⟩, hpl, s, hs, h1, h2⟩
      obtain ⟨kv, hk, e⟩ := List.mem_map.mp (hre _ g.cl)
      obtain ⟨j, hj⟩ := List.getElem?_of_mem hk
      have := h.all j kv pl held (List.getElem?_eq_some_iff.mp hj).1 hj e hpl s hs h1
      have e2 : s.2.2.1 = m := by
        have a1 := h.small _ this
        have h3 : decide (s.2.2.1 = 0) = decide (m = 0) := by
          rw [beq_iff_eq] at h2 hz
          rw [h2, hz]
        have := decide_eq_decide.mp h3
        omega
      rw [← e2]
      exact this
    · intro hin
      obtain ⟨pl, held, ok, hk, hpl, s, hs, h1, h2⟩ := h.wit m hin
      exact ⟨pl, held, ⟨ok, fun S hS => g.mn S hS _ hk⟩, hpl, s, hs, h1, by rw [h2]; exact hz⟩
  unfold kindOf
  rw [decide_eq_decide.mpr (key true 0 (by decide) (by decide)), decide_eq_decide.mpr (key false 1 (by decide) (by decide))]
section
variable {P : Program} {w : World} {K : PySem.W.Frag} {mg : Str → Option Value} {base : Heap}
def sp_law_kind (P : Program) (w : World) : Sp := fun vs H Q _ => ∃ (g : Addr) (ls : List (List Str)) (es : List (List Nd)) (kvs : List (NK × V)) (xs : List (NK × Addr × Value)) (th n : Nat), vs = [.ref g, .int (th : Int), .int (n : Int)] ∧ GraphAt P w H g es ls kvs xs ∧ th < es.length ∧ kvs.length ≤ 1000 ∧
  (∀ pl held, OkSt es ls pl held → (stepsM ls es pl held).length ≤ 400) ∧ ∀ H', Same H H' → Q (.str (kindOf ls es (k0Of ls es) th n)) H'
theorem ok_law_kind {f : Addr} {fd : FuncData} (F : Fun K "_law_kind" "_law_kind" s_law_kind f fd) (T : Txt0 K mg) (hmin : mg "min" = none) : FnOk P w K mg base CX0 1 f fd p_law_kind (sp_law_kind P w) := by
  refine F.ok sc_law_kind (fun vs H Q E h => ?_) (fun cdv A outer s H vs Q E hr h => ?_)
  · obtain ⟨g, ls, es, kvs, xs, th, n, rfl, _⟩ := h
    rfl
  · obtain ⟨g, ls, es, kvs, xs, th, n, rfl, gr, hth, lk, fewS, k⟩ := h
    have hu : ∀ {X : Cx}, X.A = (cxOf CX0 P w K mg base n_law_kind "_law_kind" (defScope s_law_kind) f cdv A outer s H E).A → X.A.units + 16 < cLine := fun e => by
      rw [e]
      exact Nat.lt_of_le_of_lt (Nat.add_le_add_left (by decide : 16 ≤ 64) _) hr.units
    refine ⟨_, pss_cons (ps_set (i := 3) sc_law_kind.nd rfl (Or.inl rfl) (pe_lst pa_nil))
      (pss_cons (ps_lock (ps_for PassesOwn.never rfl (pi_keysN (pv 0)) (pg_name (i := 4) sc_law_kind.nd rfl (Or.inl rfl))
        (pss_one (ps_if (pt_cmpR op_eq (pe_ix ix_tup (pe_ix ix_tup (pv 4) pe_int (fun _ _ => rfl)) (pv 1) (fun _ _ => rfl)) (pv 2) (nomark _))
          (pss_one (ps_set (i := 3) sc_law_kind.nd rfl (Or.inl rfl) (pe_op op_cat (pv 3) (pe_lc (own := [("step", 5)]) (g := gName 5) rfl sc_law_kind.nd (pi_list (pe_dgetNF (hu rfl) (pv 0) (pv 4) (fun _ _ => rfl))) (blkOk_by (N := n_law_kind) (sc := defScope s_law_kind) (by decide +kernel)) (fun _ _ _ _ _ => pg_name (i := 5) sc_law_kind.nd rfl (Or.inl rfl))
            (fun _ _ _ _ _ => pts_one (pt_cmpR op_eq (pe_ix (r := rIxT K) ix_tup (pv 5) pe_int (fun _ _ => rfl)) (pv 1) (nomark _))) (fun _ _ _ _ _ => pe_ix (r := rIxT K) ix_tup (pv 5) pe_int (fun _ _ => rfl)))))) pss_nil))))
      (pss_cons (ps_if (pt_cmpR (op_eqD hr.units) (pv 3) (pe_lst pa_nil) (nomark _)) (pss_one (ps_ret pe_str)) pss_nil)
      (pss_one (ps_ret (pe_ifExp (pt_cmpR op_lt (pe_callB (cr_min rfl) (by rfl) hmin (by decide +kernel) (pa_cons (pv 3) pa_nil)) (pe_callB (cr_max rfl) (by rfl) T.max (by decide +kernel) (pa_cons (pv 3) pa_nil)) (nomark _)) pe_str (pe_ix ix_list (pe_lst (pa_cons pe_str (pa_cons pe_str pa_nil))) (pe_ix ix_list (pv 3) pe_int (fun _ _ => rfl)) (fun _ _ => rfl))))))), ?_⟩
    refine ⟨Nat.zero_le _, fun S0 hS0 => ?_⟩
    have s1 := same_new (o := .lst []) hS0
    have gr1 := gr.same s1
    have eS0 : (upd H S0 (.lst [])) S0 = some (.lst []) := upd_same
    generalize upd H S0 (.lst []) = H1 at s1 gr1 eS0 ⊢
    have gat := gr1.nd.at_
    refine ⟨g, NDo P w g xs, gat, True.intro, fun od => ?_⟩
    have lkx : kvs.length = xs.length := Paired.length gr1.nd.rel
    have tL : Tups H1 (upd H1 g (.frz od (NDo P w g xs))) := fun c ys e => by
      rw [upd_ne (ne_of e gat (fun z => ndo_ne z.symm))]
      exact e
    have stL : ∀ (i : Nat) (x : NK × Addr × Value) (kv : NK × V), xs[i]? = some x → kvs[i]? = some kv → ∃ pl held, kv.1 = stK pl held ∧ StT (upd H1 g (.frz od (NDo P w g xs))) x.2.1 pl held ∧ OkSt es ls pl held ∧ ∃ l, kv.2 = .ref l ∧ StepsT (upd H1 g (.frz od (NDo P w g xs))) l (stepsM ls es pl held) := fun i x kv hx hk => by
      obtain ⟨pl, held, h1, h2, h3, l, h4, h5⟩ := gr1.st i x kv hx hk
      obtain ⟨qs, e1, _⟩ := id h5
      exact ⟨pl, held, h1, h2.tups tL, h3, l, h4, h5.keep (upd_ne (ne_of e1 gat (fun z => ndo_lst z.symm))) tL⟩
    have relL := gr1.nd.rel.keeps tL
    have eSL : (upd H1 g (.frz od (NDo P w g xs))) S0 = some (.lst []) := by
      rw [upd_ne (ne_of eS0 gat (fun z => ndo_lst z.symm))]
      exact eS0
    have frL : (upd H1 g (.frz od (NDo P w g xs))) g = some (.frz od (NDo P w g xs)) := upd_same
    have back : ∀ {H' : Hp}, Same (upd H1 g (.frz od (NDo P w g xs))) H' → Same H1 (upd H' g (NDo P w g xs)) := fun s => unlock_same gat s
    generalize upd H1 g (.frz od (NDo P w g xs)) = HL at stL relL eSL frL back ⊢
    refine ⟨_, rfl, g, od, xs, rfl, gr1.nd.nosys, frL, for_it walk_keysN (fun i σ H' => ∃ (v4 v5 : Option V) (sl : Addr) (ms : List Nat), σ = [some (.ref g), some (.int (th : Int)), some (.int (n : Int)), some (.ref sl), v4, v5] ∧ Same HL H' ∧ H' sl = some (.lst (natV ms)) ∧ Seen ls es kvs th n i ms)
      ⟨_, _, S0, [], rfl, Same.refl _, eSL, ⟨(fun m hm => nomatch hm), (fun m hm => nomatch hm), fun j kv pl held hj => absurd hj (Nat.not_lt_zero _), Nat.zero_le _⟩⟩ (fun i σ H' _ ⟨_, _, _, _, _, s, _⟩ => s _ _ frL) ?_ ?_⟩
    · rintro i x σ H4' H4 hi ⟨v4, v5, sl, ms, rfl, s4, esl, seen⟩ ⟨rfl, kk, q, v, hx, rfl⟩
      obtain ⟨kv, hkv⟩ : ∃ kv, kvs[i]? = some kv := ⟨_, List.getElem?_eq_getElem (by omega)⟩
      obtain ⟨pl, held, h1, h2, ok, l, h4, h5⟩ := stL i _ kv hx hkv
      have st4 := h2.tups (Vf.Same.tups s4)
      have tlen : th < pl.length := by
        rw [ok.pls]
        exact hth
      obtain ⟨o, ho⟩ : ∃ o, pl[th]? = some o := ⟨_, List.getElem?_eq_getElem tlen⟩
      obtain ⟨t, u, k1, k2, _⟩ := id st4
      refine ⟨_, rfl, q, _, 0, _, rfl, rfl, SqT.of k1, rfl, _, rfl, t, _, _, _, rfl, rfl, SqT.of k2, atI_nat (j := th) (by rw [List.getElem?_map, ho]; rfl), _, rfl, (by cases o <;> rfl), _, rfl, ?_⟩
      have notn : o ≠ some n → ∀ (ms' : List Nat), Seen ls es kvs th n i ms' → Seen ls es kvs th n (i + 1) ms' := fun hn ms' se => ⟨se.small, se.wit, fun j kv' pl' held' hj hkv' e hpl s hs hsth => by
        by_cases hji : j = i
        · subst hji
          obtain rfl := Option.some.inj (hkv.symm.trans hkv')
          obtain ⟨e1, e2⟩ := stK_inj (e.symm.trans h1)
          rw [e1, ho] at hpl
          exact absurd (Option.some.inj hpl) hn
        · exact se.all j kv' pl' held' (by omega) hkv' e hpl s hs hsth, Nat.le_trans se.few (by omega)⟩
      by_cases hon : o = some n
      · rw [decide_eq_true (p := plV o = V.int (n : Int)) (by rw [hon]; rfl)]
        refine iteT ?_
        have hk1 : kv.1 = kk := by
          have h := congrArg (fun z => z[i]?) (keys_kn gr1.nd.rel)
          simp only [List.getElem?_map, hkv, hx, Option.map_some] at h
          exact Option.some.inj h
        have hval : valV kvs kk = some (.ref l) := by
          rw [← hk1, ← h4]
          exact val_memN gr.nk (List.mem_of_getElem? hkv)
        obtain ⟨qs, g1, g2, g3⟩ := h5
        have g14 := s4 _ _ g1
        have lqs : qs.length ≤ 400 := by
          have := fewS pl held ok
          rw [← g2, List.length_map] at this
          exact this
        have hms : ∀ q ∈ qs, q.2 ∈ stepsM ls es pl held := fun q hq => by
          rw [← g2]
          exact List.mem_map_of_mem hq
        refine ⟨_, rfl, _, rfl, _, rfl, g, q, od, kvs, xs, kk, .ref l, rfl, rfl, s4 _ _ frL, relL.keeps (Vf.Same.tups s4), (by rw [← hk1, h1]; exact st4.key), hval, l, rfl, ⟨_, SqL.of g14⟩, fun D hD => lc_fm qs (walk_list (K := K) (a := l) (xs := qs.map fun q => V.ref q.1) |> fun z => by rw [List.length_map] at z; exact z) hD (fun q => if decide (q.2.1 = th) = true then some (V.int (q.2.2.2.1 : Int)) else none) (by omega) (fun H5 s5 => SqL.of (s5 _ _ g14)) ?_ ?_⟩
        · rintro j q' y H5 H6 hq s5 ⟨rfl, hy⟩ R hR
          rw [List.getElem?_map, hq] at hy
          obtain rfl : V.ref q'.1 = y := Option.some.inj hy
          obtain ⟨bb, m1, m2⟩ := g3 q' (List.mem_of_getElem? hq)
          have m16 := s5 _ _ (s4 _ _ m1)
          refine ⟨rfl, _, rfl, q'.1, _, 0, _, rfl, rfl, SqT.of m16, rfl, _, rfl, rfl, _, rfl, ?_⟩
          have := hR _ (Same.refl _)
          by_cases hz : q'.2.1 = th
          · rw [if_pos (decide_eq_true hz)] at this
            rw [decide_eq_true (p := V.int (q'.2.1 : Int) = V.int (th : Int)) (by rw [hz])]
            exact iteT ⟨_, rfl, q'.1, _, 2, _, rfl, rfl, SqT.of m16, rfl, this⟩
          · rw [if_neg (by rw [decide_eq_false hz]; exact Bool.false_ne_true)] at this
            rw [decide_eq_false (p := V.int (q'.2.1 : Int) = V.int (th : Int)) (fun z => hz (by have := V.int.inj z; omega))]
            exact iteF this
        · intro H5 s5 hL
          rw [filter_map_ite] at hL
          have e1 : ((qs.filter fun q => decide (q.2.1 = th)).map fun q => V.int (q.2.2.2.1 : Int)) = natV ((qs.filter fun q => decide (q.2.1 = th)).map fun q => q.2.2.2.1) := by
            unfold natV
            rw [List.map_map]
            rfl
          rw [e1] at hL
          have lf : ((qs.filter fun q => decide (q.2.1 = th)).map fun q => q.2.2.2.1).length ≤ 400 := by
            rw [List.length_map]
            exact Nat.le_trans (List.length_filter_le _ _) lqs
          have mf : ∀ m, m ∈ ((qs.filter fun q => decide (q.2.1 = th)).map fun q => q.2.2.2.1) ↔ ∃ q ∈ qs, q.2.1 = th ∧ q.2.2.2.1 = m := fun m => by
            rw [List.mem_map]
            constructor
            · rintro ⟨q, hq, rfl⟩
              obtain ⟨a1, a2⟩ := List.mem_filter.mp hq
              exact ⟨q, a1, of_decide_eq_true a2, rfl⟩
            · rintro ⟨q, hq, a2, rfl⟩
              exact ⟨q, List.mem_filter.mpr ⟨hq, decide_eq_true a2⟩, rfl⟩
          generalize ((qs.filter fun q => decide (q.2.1 = th)).map fun q => q.2.2.2.1) = ms2 at hL lf mf
          have few1 := seen.few
          refine ⟨sl, D, _, _, rfl, rfl, s5 _ _ esl, hL, ?_, fun p hp => ?_⟩
          · unfold natV
            rw [List.length_map, List.length_map, sizeLine_eq]
            omega
          refine ⟨_, _, p, ms ++ ms2, rfl, (s4.trans s5).trans (same_new hp), by rw [upd_same]; unfold natV; rw [List.map_append], ⟨fun m hm => ?_, fun m hm => ?_, fun j kv' pl' held' hj hkv' e hpl s hs hsth => ?_, by rw [List.length_append]; omega⟩⟩
          · rcases List.mem_append.mp hm with hm | hm
            · exact seen.small m hm
            · obtain ⟨q, hq, _, rfl⟩ := (mf m).mp hm
              exact step_mv (hms q hq)
          · rcases List.mem_append.mp hm with hm | hm
            · exact seen.wit m hm
            · obtain ⟨q, hq, a1, a2⟩ := (mf m).mp hm
              exact ⟨pl, held, ok, by rw [← h1]; exact List.mem_map_of_mem (List.mem_of_getElem? hkv), by rw [ho, hon], q.2, hms q hq, a1, a2⟩
          · by_cases hji : j = i
            · subst hji
              obtain rfl := Option.some.inj (hkv.symm.trans hkv')
              obtain ⟨e1, e2⟩ := stK_inj (e.symm.trans h1)
              rw [e1, e2, ← g2] at hs
              obtain ⟨q, hq, rfl⟩ := List.mem_map.mp hs
              exact List.mem_append_right _ ((mf _).mpr ⟨q, hq, hsth, rfl⟩)
            · exact List.mem_append_left _ (seen.all j kv' pl' held' (by omega) hkv' e hpl s hs hsth)
      · rw [decide_eq_false (p := plV o = V.int (n : Int)) (fun z => hon (by
          cases o with
          | none => cases z
          | some m => exact congrArg some (by have := V.int.inj z; omega)))]
        exact iteF ⟨_, _, sl, ms, rfl, s4, esl, notn hon ms seen⟩
    · rintro σ H4 ⟨v4, v5, sl, ms, rfl, s4, esl, seen⟩
      have hsg : sl ≠ g := ne_of esl (s4 _ _ frL) (by intro z; cases z)
      refine ⟨s4 _ _ frL, ?_⟩
      have s5 := s1.trans (back s4)
      have e5 : (upd H4 g (NDo P w g xs)) sl = some (.lst (natV ms)) := by
        rw [upd_ne hsg]
        exact esl
      generalize upd H4 g (NDo P w g xs) = H5 at s5 e5 ⊢
      rw [← lkx] at seen
      have kd := Seen.kind gr seen
      rw [kd] at k
      obtain ⟨sh1, sh2⟩ := sh_nats seen.small
      refine ⟨_, rfl, Nat.zero_le _, fun e he => ⟨_, _, .lst (SqL.of (same_new he _ _ e5)) (dp_map fun m _ => .int _), .lst (SqL.of upd_same) .nil, shaped_sh sh1 sh2, shaped_nil, _, rfl, ?_⟩⟩
      have s6 := s5.trans (same_new (o := .lst []) he)
      have e6 := same_new (o := .lst []) he _ _ e5
      generalize upd H5 e (.lst []) = H6 at s6 e6 ⊢
      rw [eqv_noL]
      have ek := fun (z : Str) (e : kindZ (decide (0 ∈ ms)) (decide (1 ∈ ms)) = z) => e ▸ k H6 s6
      cases ms with
      | nil => exact iteT (ek _ (by decide +kernel))
      | cons m0 ms =>
        rw [decide_eq_false (by simp)]
        refine iteF ?_
        have small := seen.small
        have eI : natV (m0 :: ms) = ((m0 :: ms).map fun m : Nat => (m : Int)).map V.int := by
          unfold natV
          rw [List.map_map]
          rfl
        have e6' := e6
        rw [eI] at e6'
        refine ⟨_, rfl, sl, _, rfl, SqL.of e6', by simp, fun mn hmn1 hmn2 => ⟨_, rfl, sl, _, rfl, SqL.of e6', by simp, fun mx hmx1 hmx2 => ⟨_, _, rfl, rfl, _, rfl, ?_⟩⟩⟩
        obtain ⟨a, ha, rfl⟩ := List.mem_map.mp hmn1
        obtain ⟨b, hb, rfl⟩ := List.mem_map.mp hmx1
        have ha1 := small a ha
        have hb1 := small b hb
        have m01 := small m0 List.mem_cons_self
        have lo : ∀ m ∈ m0 :: ms, a ≤ m := fun m hm => by have := hmn2 (m : Int) (List.mem_map_of_mem (f := fun m : Nat => (m : Int)) hm); omega
        have hi : ∀ m ∈ m0 :: ms, m ≤ b := fun m hm => by have := hmx2 (m : Int) (List.mem_map_of_mem (f := fun m : Nat => (m : Int)) hm); omega
        by_cases hlt : a < b
        · rw [decide_eq_true (p := (a : Int) < (b : Int)) (by omega)]
          obtain rfl : a = 0 := by omega
          obtain rfl : b = 1 := by omega
          refine iteT (ek _ ?_)
          rw [decide_eq_true ha, decide_eq_true hb]
          decide +kernel
        · rw [decide_eq_false (p := (a : Int) < (b : Int)) (by omega)]
          refine iteF ⟨(by show 2 ≤ sizeLine; decide), fun c hc => ⟨_, rfl, sl, _, 0, _, rfl, rfl, SqL.of (same_new hc _ _ e6), atI_nat (j := 0) (by unfold natV; rw [List.map_cons]; rfl), ?_⟩⟩
          have ek' := fun (z : Str) (e : kindZ (decide (0 ∈ m0 :: ms)) (decide (1 ∈ m0 :: ms)) = z) => e ▸ k (upd H6 c (.lst [.str "never", .str "always"])) (s6.trans (same_new hc))
          have m0a := lo m0 List.mem_cons_self
          have m0b := hi m0 List.mem_cons_self
          by_cases hz : m0 = 0
          · subst hz
            have h1n : 1 ∉ 0 :: ms := fun h => by have := hi 1 h; omega
            exact ⟨c, _, ((0 : Nat) : Int), .str "never", rfl, rfl, SqL.of upd_same, atI_nat (j := 0) rfl, ek' _ (by rw [decide_eq_true (List.mem_cons_self), decide_eq_false h1n]; decide +kernel)⟩
          · obtain rfl : m0 = 1 := by omega
            have h0n : 0 ∉ 1 :: ms := fun h => by have := lo 0 h; omega
            exact ⟨c, _, ((1 : Nat) : Int), .str "always", rfl, rfl, SqL.of upd_same, atI_nat (j := 1) rfl, ek' _ (by rw [decide_eq_false h0n, decide_eq_true (List.mem_cons_self)]; decide +kernel)⟩
end
end Vf

set_option maxRecDepth 100000
set_option maxHeartbeats 8000000
namespace Vf
open PySem PySem.Spec PyProof.Rows L2
section
variable {P : Program} {w : World} {K : PySem.W.Frag} {mg : Str → Option Value} {base : Heap}
def sp_law_case (P : Program) (w : World) : Sp := fun vs H Q _ => ∃ (p : Addr) (most : Nat), vs = [.ref p, .int (most : Int)] ∧ FeedAt H p ∧ 2 ≤ most ∧ most ≤ 1000 ∧
  ∀ t d l o e g cs r ps rs es H', But p H H' → FeedAt H' p → CaseAt P w H' t d l o e g cs r ps rs es most → Q (.ref t) H'
theorem ok_law_case {f : Addr} {fd : FuncData} (F : Fun K "_law_case" "_law_case" s_law_case f fd) (T : Txt0 K mg) (GL : OkF P w K mg base CX0 "_law_layout" p_law_layout 4 sp_law_layout) (GO : OkF P w K mg base CX0 "_law_order" p_law_order 1 sp_law_order) (GT : OkF P w K mg base CX0 "_law_take" p_law_take 1 sp_law_take) (GP : OkF P w K mg base CX0 "_law_pick" p_law_pick 2 (sp_law_pick K))
    (GS : OkF P w K mg base CX0 "_law_straight" p_law_straight 3 (sp_law_straight K)) (GN : OkF P w K mg base CX0 "_law_nodes" p_law_nodes 3 (sp_law_nodes K)) (GG : OkF P w K mg base CX0 "_law_graph" p_law_graph 2 (sp_law_graph P w)) : FnOk P w K mg base CX0 5 f fd p_law_case (sp_law_case P w) := by
  refine F.ok sc_law_case (fun vs H Q E h => ?_) (fun cdv A outer s H vs Q E hr h => ?_)
  · obtain ⟨p, most, rfl, _⟩ := h
    rfl
  · obtain ⟨p, most, rfl, hp, hm2, hm1000, k⟩ := h
    have hr1 : Room 1 _ := hr.mono (by decide)
    have hr2 : Room 2 _ := hr.mono (by decide)
    have hr3 : Room 3 _ := hr.mono (by decide)
    have hr4 := hr
    refine ⟨_, pss_cons (ps_asg (pe_fn GL hr4 rfl pass0 (pa_cons (pv 0) (pa_cons (pe_fn GP hr2 rfl pass0 (pa_cons (pv 0) (pa_cons (pe_lst (pa_cons pe_int (pa_cons pe_int (pa_cons pe_int pa_nil)))) pa_nil))) pa_nil))) (pg_lst (by rfl) (pgs_cons (pg_name (i := 2) sc_law_case.nd rfl (Or.inl rfl)) (pgs_cons (pg_name (i := 3) sc_law_case.nd rfl (Or.inl rfl)) (pgs_cons (pg_name (i := 4) sc_law_case.nd rfl (Or.inl rfl)) pgs_nil)))))
      (pss_cons (ps_par (i := 5) (j := 6) rfl sc_law_case.nd rfl rfl (by decide) rfl rfl (pa_cons (pe_fn GO hr1 rfl pass0 (pa_cons (pv 4) pa_nil)) (pa_cons (pe_fn GP hr2 rfl pass0 (pa_cons (pv 0) (pa_cons (pe_lst (pa_cons pe_int (pa_cons pe_int (pa_cons pe_int (pa_cons pe_int (pa_cons pe_int pa_nil)))))) pa_nil))) pa_nil)) (by rfl))
      (pss_cons (ps_for PassesOwn.never rfl (pi_list (pe_lst (pa_cons (pe_cut (pe_ifExp (pt_cmpR op_eq (pv 6) pe_int (nomark _)) (pe_fn GP hr2 rfl pass0 (pa_cons (pv 0) (pa_cons (pe_lst (pa_cons pe_int (pa_cons pe_int pa_nil))) pa_nil))) (pe_fn GP hr2 rfl pass0 (pa_cons (pv 0) (pa_cons (pe_lst (pa_cons pe_int (pa_cons pe_int (pa_cons pe_int pa_nil)))) pa_nil))))) (pa_cons pe_int (pa_cons pe_int pa_nil))))) (pg_name (i := 7) sc_law_case.nd rfl (Or.inl rfl))
        (pss_cons (ps_set (i := 8) sc_law_case.nd rfl (Or.inl rfl) (pe_lst pa_nil))
        (pss_cons (ps_for PassesOwn.never rfl (pi_range1 (by rfl) T.range (pa_cons (pv 6) pa_nil)) (pg_name (i := 9) sc_law_case.nd rfl (Or.inl rfl))
          (pss_cons (ps_set (i := 10) sc_law_case.nd rfl (Or.inl rfl) (pe_cut (pe_or (pe_cmpR op_eq (pv 7) pe_int (nomark _)) (pe_one (pe_cmpR op_eq (pe_fn GT hr1 rfl pass0 (pa_cons (pv 0) (pa_cons pe_int pa_nil))) pe_int (nomark _))))))
          (pss_one (ps_expr (pe_bm PySem.F.plainAttrs_list PySem.F.slot_list_append PySem.F.type_list_append mt_append (pv 8) (pa_cons (pe_cut (pe_ifExp (pt_val (pv 10)) (pe_fn GS hr3 rfl pass0 (pa_cons (pv 0) (pa_cons (pv 2) (pa_cons (pv 7) pa_nil)))) (pe_fn GN hr3 rfl pass0 (pa_cons (pv 0) (pa_cons (pv 2) (pa_cons (pv 7) pa_nil)))))) pa_nil))))))
        (pss_cons (ps_set (i := 11) sc_law_case.nd rfl (Or.inl rfl) (pe_fn GG hr2 rfl pass0 (pa_cons (pv 5) (pa_cons (pv 8) (pa_cons (pv 1) pa_nil)))))
        (pss_one (ps_if (pt_cmpR op_notN (pv 11) pe_non (nomark _)) (pss_one (ps_ret (pe_lst (pa_cons (pe_lst (pa_cons (pv 2) (pa_cons (pv 3) (pa_cons (pv 4) pa_nil)))) (pa_cons (pv 5) (pa_cons (pv 8) (pa_cons (pv 11) pa_nil))))))) pss_nil))))))
      (pss_cons (ps_set (i := 8) sc_law_case.nd rfl (Or.inl rfl) (pe_lst (pa_cons (pe_tup (pa_cons (pe_tup (pa_cons pe_str (pa_cons (pe_ix ix_list (pe_callTy (call_listD rfl) (by rfl) T.list (by decide +kernel) (pa_cons (pv 2) pa_nil)) pe_int (fun _ _ => rfl)) (pa_cons (pe_tup (pa_cons pe_non pa_nil)) pa_nil)))) pa_nil)) pa_nil)))
      (pss_one (ps_ret (pe_lst (pa_cons (pe_lst (pa_cons (pv 2) (pa_cons (pv 3) (pa_cons (pv 4) pa_nil)))) (pa_cons (pv 5) (pa_cons (pv 8) (pa_cons (pe_fn GG hr2 rfl pass0 (pa_cons (pv 5) (pa_cons (pv 8) (pa_cons (pv 1) pa_nil)))) pa_nil)))))))))), ?_⟩
    refine ⟨_, rfl, _, rfl, (by show 3 ≤ sizeLine; decide), fun c0 hc0 => ⟨p, c0, _, rfl, hp.same (same_new hc0), hp.ne hc0, SqL.of upd_same, (by show 1 ≤ 3; decide), (by show 3 ≤ 1000000; decide), fun r0 v0 H1 hv0 b1 f1 => ?_⟩⟩
    obtain ⟨m0, rfl, m01, m06⟩ : ∃ n : Nat, v0 = .int (n : Int) ∧ 1 ≤ n ∧ n ≤ 6 := by
      have hv' : ([V.int 4, .int 4, .int 6] : List V)[r0]? = some v0 := hv0
      match r0, hv' with
      | 0, e => exact ⟨4, (Option.some.inj e).symm, by decide, by decide⟩
      | 1, e => exact ⟨4, (Option.some.inj e).symm, by decide, by decide⟩
      | 2, e => exact ⟨6, (Option.some.inj e).symm, by decide, by decide⟩
      | r + 3, e => exact absurd e (by simp)
    have b01 : But p H H1 := (Vf.Same.but (same_new hc0)).trans b1
    refine ⟨p, m0, rfl, f1, m01, m06, fun t0 d l cs r ps H2 b2 f2 ht0 hd good r1 r32 il => ?_⟩
    refine ⟨t0, _, rfl, SqL.of ht0, rfl, _, _, rfl, _, _, rfl, _, _, rfl, rfl, ?_⟩
    have b02 := b01.trans b2
    have lfl := il.len good
    have ne : ∀ q ∈ ps, q.2 ≠ [] := fun q hq => (il.each q hq).2.1
    have lps : ps.length ≤ 6 := Nat.le_trans (flat_len ne) lfl
    refine ⟨_, rfl, l, ps, rfl, il.at_, fun q hq => ⟨(il.each q hq).1, ne q hq, Nat.le_trans (flat_part hq) lfl⟩, lps, fun o rs H3 s3 hord hrs => ?_⟩
    have f3 := f2.same s3
    have hd3 := s3 _ _ hd
    have il3 := il.same s3
    refine ⟨_, rfl, (by show 5 ≤ sizeLine; decide), fun c1 hc1 => ⟨p, c1, _, rfl, f3.same (same_new hc1), f3.ne hc1, SqL.of upd_same, (by show 1 ≤ 5; decide), (by show 5 ≤ 1000000; decide), fun k1 v1 H4 hv1 b4 f4 => ⟨_, _, rfl, ?_⟩⟩⟩
    obtain ⟨mn, rfl, mn1, mn3⟩ : ∃ n : Nat, v1 = .int (n : Int) ∧ 1 ≤ n ∧ n ≤ 3 := by
      have hv' : ([V.int 1, .int 2, .int 2, .int 2, .int 3] : List V)[k1]? = some v1 := hv1
      match k1, hv' with
      | 0, e => exact ⟨1, (Option.some.inj e).symm, by decide, by decide⟩
      | 1, e => exact ⟨2, (Option.some.inj e).symm, by decide, by decide⟩
      | 2, e => exact ⟨2, (Option.some.inj e).symm, by decide, by decide⟩
      | 3, e => exact ⟨2, (Option.some.inj e).symm, by decide, by decide⟩
      | 4, e => exact ⟨3, (Option.some.inj e).symm, by decide, by decide⟩
      | r + 5, e => exact absurd e (by simp)
    have b34 : But p H3 H4 := (Vf.Same.but (same_new hc1)).trans b4
    have b04 : But p H H4 := (b02.then s3).trans b34
    have hd4 := b34 _ _ (feed_neD f3 hd3) hd3
    have il4 := Vf.InLines.but il3 f3 b34
    have ord4 := Vf.OrdAt.but hord f3 b34
    have lrs : rs.length ≤ 6 := by
      have e := congrArg List.length hrs
      rw [List.length_map] at e
      have := (linesOf_good good il.perm ne).few
      omega
    have nd : (rs.map Prod.snd).flatten.Nodup := by
      rw [hrs]
      exact linesOf_nodup good il.perm
    have cells : ∀ z ∈ cs.map Prod.fst, z ∈ (rs.map Prod.snd).flatten := fun z hz => by
      rw [hrs]
      exact (linesOf_perm il.perm).mem_iff.mpr hz
    clear hord il3 hd3 f3 il hd
    refine ⟨fun v H' => ∃ sz : Nat, v = .int (sz : Int) ∧ 1 ≤ sz ∧ sz ≤ 8 ∧ But p H4 H' ∧ FeedAt H' p, ?_, ?_⟩
    · refine ⟨_, rfl, rfl, _, rfl, ?_⟩
      generalize decide (V.int (mn : Int) = V.int 1) = cb
      cases cb with
      | true =>
        refine iteT ?_
        refine ⟨_, rfl, (by show 2 ≤ sizeLine; decide), fun c2 hc2 => ⟨p, c2, _, rfl, f4.same (same_new hc2), f4.ne hc2, SqL.of upd_same, (by show 1 ≤ 2; decide), (by show 2 ≤ 1000000; decide), fun k2 v2 H5 hv2 b5 f5 => ?_⟩⟩
        have hv' : ([V.int 3, .int 8] : List V)[k2]? = some v2 := hv2
        match k2, hv' with
        | 0, e => exact ⟨3, (Option.some.inj e).symm, by decide, by decide, (Vf.Same.but (same_new hc2)).trans b5, f5⟩
        | 1, e => exact ⟨8, (Option.some.inj e).symm, by decide, by decide, (Vf.Same.but (same_new hc2)).trans b5, f5⟩
        | r + 2, e => exact absurd e (by simp)
      | false =>
        refine iteF ?_
        refine ⟨_, rfl, (by show 3 ≤ sizeLine; decide), fun c2 hc2 => ⟨p, c2, _, rfl, f4.same (same_new hc2), f4.ne hc2, SqL.of upd_same, (by show 1 ≤ 3; decide), (by show 3 ≤ 1000000; decide), fun k2 v2 H5 hv2 b5 f5 => ?_⟩⟩
        have hv' : ([V.int 2, .int 3, .int 4] : List V)[k2]? = some v2 := hv2
        match k2, hv' with
        | 0, e => exact ⟨2, (Option.some.inj e).symm, by decide, by decide, (Vf.Same.but (same_new hc2)).trans b5, f5⟩
        | 1, e => exact ⟨3, (Option.some.inj e).symm, by decide, by decide, (Vf.Same.but (same_new hc2)).trans b5, f5⟩
        | 2, e => exact ⟨4, (Option.some.inj e).symm, by decide, by decide, (Vf.Same.but (same_new hc2)).trans b5, f5⟩
        | r + 3, e => exact absurd e (by simp)
    rintro v5 H5 ⟨sz, rfl, z1, z8, b5, f5⟩
    refine ⟨(by show 3 ≤ sizeLine; decide), fun L hL => ?_⟩
    have eL : (upd H5 L (.lst [.int (sz : Int), .int 2, .int 1])) L = some (.lst [.int (sz : Int), .int 2, .int 1]) := upd_same
    have sL := same_new (o := .lst [.int (sz : Int), .int 2, .int 1]) hL
    have hLp : L ≠ p := (f5.ne hL).symm
    have b6 := b5.then sL
    have f6 := f5.same sL
    generalize (upd H5 L (.lst [.int (sz : Int), .int 2, .int 1])) = H6 at eL b6 f6 ⊢
    refine ⟨L, rfl, ⟨_, SqL.of eL⟩, for_it (walk_list (K := K) (a := L) (xs := [.int (sz : Int), .int 2, .int 1])) (fun i σ H' => ∃ v7 v8 v9 v10 v11 : Option V, σ = [some (.ref p), some (.int (most : Int)), some (.ref d), some (.int (r : Int)), some (.ref l), some (.ref o), some (.int (mn : Int)), v7, v8, v9, v10, v11] ∧ But p H4 H' ∧ FeedAt H' p ∧ H' L = some (.lst [.int (sz : Int), .int 2, .int 1]))
      ⟨_, _, _, _, _, rfl, b6, f6, eL⟩ (fun i σ H' _ ⟨_, _, _, _, _, _, _, _, e⟩ => SqL.of e) ?_ ?_⟩
    · rintro i x σ H7' H7 hi ⟨v7, v8, v9, v10, v11, rfl, b7, f7, eL7⟩ ⟨rfl, hx⟩
      obtain ⟨s0, rfl, s01, s08⟩ : ∃ n : Nat, x = .int (n : Int) ∧ 1 ≤ n ∧ n ≤ 8 := by
        have hv' : ([V.int (sz : Int), .int 2, .int 1] : List V)[i]? = some x := hx
        match i, hv' with
        | 0, e => exact ⟨sz, (Option.some.inj e).symm, z1, z8⟩
        | 1, e => exact ⟨2, (Option.some.inj e).symm, by decide, by decide⟩
        | 2, e => exact ⟨1, (Option.some.inj e).symm, by decide, by decide⟩
        | r + 3, e => exact absurd e (by simp)
      refine ⟨Nat.zero_le _, fun e he => ?_⟩
      have pe := f7.ne he
      have e40 : H4 e = none := b7.free f7 he
      have ee : (upd H7 e (.lst [])) e = some (.lst []) := upd_same
      have b8 := b7.then (same_new (o := .lst []) he)
      have f8 := f7.same (same_new (o := .lst []) he)
      have eL8 := same_new (o := .lst []) he _ _ eL7
      have hLe : L ≠ e := ne_of_none eL7 he
      generalize (upd H7 e (.lst [])) = H8 at ee b8 f8 eL8 ⊢
      refine ⟨_, rfl, _, rfl, by omega, by omega, ?_⟩
      rw [Int.toNat_natCast]
      refine for_it (walk_range (lo := 0) (n := mn)) (fun j σ H' => ∃ (v9 v10 : Option V) (qs : List (Addr × List Nd)), σ = [some (.ref p), some (.int (most : Int)), some (.ref d), some (.int (r : Int)), some (.ref l), some (.ref o), some (.int (mn : Int)), some (.int (s0 : Int)), some (.ref e), v9, v10, v11] ∧ But2 p e H8 H' ∧ FeedAt H' p ∧ H' e = some (.lst (qs.map fun q => V.ref q.1)) ∧ qs.length = j ∧
          ∀ q ∈ qs, NodesAt H' q.1 q.2 ∧ Good q.2 ∧ ∀ n ∈ q.2, n.cell ∈ cs.map Prod.fst)
        ⟨_, _, [], rfl, fun x o _ _ e => e, f8, ee, rfl, fun q hq => nomatch hq⟩ (fun _ _ _ _ _ => trivial) ?_ ?_
      · rintro j x σ H9' H9 hj ⟨v9, v10, qs, rfl, b9, f9, he9, lqs, hqs⟩ ⟨rfl, rfl⟩
        refine ⟨fun v H' => ∃ c, v = .bl c ∧ But p H9 H' ∧ FeedAt H' p, ?_, ?_⟩
        · refine ⟨_, rfl, rfl, _, rfl, ?_⟩
          split
          · exact ⟨true, rfl, But.refl _ _, f9⟩
          · exact ⟨_, rfl, p, 3, rfl, f9, by decide, by decide, fun r3 H10 hr3 b10 f10 => ⟨rfl, _, rfl, b10, f10⟩⟩
        rintro vb H10 ⟨c, rfl, b10, f10⟩
        have he10 := b10 _ _ pe.symm he9
        have d4p := feed_neD f4 hd4
        have hde : d ≠ e := ne_of_none hd4 e40
        have hd10 := b10 _ _ d4p (b9 _ _ d4p hde (b8 _ _ d4p hd4))
        refine ⟨_, rfl, .inl ⟨rfl, _, SqL.of he10⟩, fun v H' => ∃ t ns, v = .ref t ∧ NodesAt H' t ns ∧ Good ns ∧ (∀ n ∈ ns, n.cell ∈ cs.map Prod.fst) ∧ But p H10 H' ∧ FeedAt H' p, ?_, ?_⟩
        · refine ⟨_, rfl, c, rfl, ?_⟩
          cases c with
          | true => exact iteT ⟨_, rfl, _, rfl, _, rfl, p, d, cs, s0, rfl, f10, hd10, good, s01, s08, fun t ns H11 b11 f11 _ hn g hc => ⟨t, ns, rfl, hn, g, hc, b11, f11⟩⟩
          | false => exact iteF ⟨_, rfl, _, rfl, _, rfl, p, d, cs, s0, rfl, f10, hd10, good, s01, s08, fun t ns H11 b11 f11 _ hn g hc => ⟨t, ns, rfl, hn, g, hc, b11, f11⟩⟩
        rintro vt H11 ⟨t, ns, rfl, hn, g, hc, b11, f11⟩
        have he11 := b11 _ _ pe.symm he10
        have tT : Tups H9 (upd H11 e (.lst (qs.map (fun q => V.ref q.1) ++ [.ref t]))) := ((FeedAt.tups f9 b10).trans (FeedAt.tups f10 b11)).trans (Vf.But.tups (p := e) ((But.refl e H11).put) he11)
        refine ⟨e, _, _, rfl, rfl, he11, by rw [List.length_map, lqs, sizeLine_eq]; omega, _, _, qs ++ [(t, ns)], rfl, fun x u h1 h2 q => ?_, f11.put pe, by rw [upd_same, List.map_append]; rfl, by rw [List.length_append, lqs]; rfl, fun q hq => ?_⟩
        · rw [upd_ne h2]
          exact b11 _ _ h1 (b10 _ _ h1 (b9 x u h1 h2 q))
        · rcases List.mem_append.mp hq with hq | hq
          · exact ⟨NodesAt.tups (hqs q hq).1 tT, (hqs q hq).2⟩
          · rw [List.mem_singleton.mp hq]
            exact ⟨NodesAt.tups hn (Vf.But.tups (p := e) ((But.refl e H11).put) he11), g, hc⟩
      · rintro σ H9 ⟨v9, v10, qs, rfl, b9, f9, he9, lqs, hqs⟩
        have b49 : But p H4 H9 := fun x u h1 q => b9 x u h1 (ne_of_none q e40) (b8 x u h1 q)
        have ord9 := Vf.OrdAt.but ord4 f4 b49
        have ev9 : EvAt H9 e (qs.map Prod.snd) := ⟨qs, he9, rfl, fun q hq => (hqs q hq).1⟩
        have nod : GoodEs (qs.map Prod.snd) (rs.map Prod.snd) := fun ns hns => by
          obtain ⟨q, hq, rfl⟩ := List.mem_map.mp hns
          exact ⟨(hqs q hq).2.1, fun n hn => cells _ ((hqs q hq).2.2 n hn)⟩
        have les : (qs.map Prod.snd).length ≤ 3 := by rw [List.length_map, lqs]; exact mn3
        refine ⟨_, rfl, _, rfl, _, rfl, o, e, most, rs, qs.map Prod.snd, rfl, ord9, ev9, les, lrs, nod, nd, hm1000, fun q kvs xs H12 s12 hq gr xne xle => ?_, fun _ H12 s12 => ?_⟩
        · refine ⟨_, rfl, rfl, _, rfl, iteT ⟨_, rfl, _, rfl, _, rfl, (by show 3 ≤ sizeLine; decide), fun u hu => ⟨_, rfl, _, rfl, _, rfl, (by show 4 ≤ sizeLine; decide), fun t ht => ?_⟩⟩⟩
          have sU := (same_new (o := .lst [.ref d, .int (r : Int), .ref l]) hu).trans (same_new (o := .lst [.ref u, .ref o, .ref e, .ref q]) ht)
          have b4F := b49.then (s12.trans sU)
          refine k t d l o e q cs r ps rs (qs.map Prod.snd) _ (b04.trans b4F) (f9.same (s12.trans sU)) ⟨⟨u, upd_same, same_new ht _ _ upd_same⟩, b4F _ _ (feed_neD f4 hd4) hd4, good, r1, r32, Vf.InLines.but il4 f4 b4F, ord9.same (s12.trans sU), hrs, Vf.EvAt.same ev9 (s12.trans sU), les, (by rw [List.length_map, lqs]; exact mn1), nod, ⟨kvs, xs, gr.same sU, xne, xle⟩⟩
        · refine ⟨_, rfl, rfl, _, rfl, iteF ⟨_, _, _, _, _, rfl, b49.then s12, f9.same s12, s12 _ _ (b9 _ _ hLp hLe eL8)⟩⟩
    · rintro σ H7 ⟨v7, v8, v9, v10, v11, rfl, b7, f7, _⟩
      have d4p := feed_neD f4 hd4
      have hd7 := b7 _ _ d4p hd4
      obtain ⟨c0', crest, ecs⟩ := List.exists_cons_of_ne_nil good.some
      have hz0 : c0'.1 ∈ cs.map Prod.fst := by rw [ecs]; exact List.mem_cons_self
      have hname : isNameT c0'.1 = true := good.name c0' (by rw [ecs]; exact List.mem_cons_self)
      refine ⟨_, rfl, d, cellKv cs, rfl, .inl hd7, fun q1 hq1 => ⟨q1, _, 0, .str c0'.1, rfl, rfl, SqL.of upd_same, by rw [cellKv_keys, ecs]; exact atI_nat (j := 0) rfl, (by show 1 ≤ sizeLine; decide), fun t1 ht1 => ⟨(by show 3 ≤ sizeLine; decide), fun a1 ha1 => ⟨(by show 1 ≤ sizeLine; decide), fun t2 ht2 => ⟨(by show 1 ≤ sizeLine; decide), fun e he => ?_⟩⟩⟩⟩⟩
      have sQ := same_new (o := .lst ((cellKv cs).map fun kv => kV kv.1)) hq1
      have s1 := same_new (o := .tup [.non]) ht1
      have s2 := same_new (o := .tup [.str "write", .str c0'.1, .ref t1]) ha1
      have s3' := same_new (o := .tup [.ref a1]) ht2
      have s4 := same_new (o := .lst [.ref t2]) he
      have sA := sQ.trans (s1.trans (s2.trans (s3'.trans s4)))
      have b4A := b7.then sA
      have fA := f7.same sA
      have evA : EvAt (upd (upd (upd (upd (upd H7 q1 (.lst ((cellKv cs).map fun kv => kV kv.1))) t1 (.tup [.non])) a1 (.tup [.str "write", .str c0'.1, .ref t1])) t2 (.tup [.ref a1])) e (.lst [.ref t2])) e [[⟨sWrite, c0'.1, [none]⟩]] := by
        refine ⟨[(t2, [⟨sWrite, c0'.1, [none]⟩])], upd_same, rfl, fun q hq => ?_⟩
        rw [List.mem_singleton.mp hq]
        refine ⟨[a1], s4 _ _ upd_same, rfl, fun i a n g1 g2 => ?_⟩
        match i, g1, g2 with
        | 0, g1, g2 =>
          obtain rfl : a1 = a := Option.some.inj g1
          obtain rfl : (⟨sWrite, c0'.1, [none]⟩ : Nd) = n := Option.some.inj g2
          exact ⟨t1, s4 _ _ (s3' _ _ upd_same), s4 _ _ (s3' _ _ (s2 _ _ upd_same))⟩
        | i + 1, g1, _ => exact absurd g1 (by simp)
      have nodA : GoodEs [[⟨sWrite, c0'.1, [none]⟩]] (rs.map Prod.snd) := fun ns hns => by
        rw [List.mem_singleton.mp hns]
        refine ⟨⟨(by show 1 ≤ 8; decide), by simp, fun n hn => ?_⟩, fun n hn => ?_⟩
        · rw [List.mem_singleton.mp hn]
          exact ⟨.inr rfl, hname, by simp, [], true, rfl, rfl, fun k h => by cases h⟩
        · rw [List.mem_singleton.mp hn]
          exact cells _ hz0
      generalize (upd (upd (upd (upd (upd H7 q1 (.lst ((cellKv cs).map fun kv => kV kv.1))) t1 (.tup [.non])) a1 (.tup [.str "write", .str c0'.1, .ref t1])) t2 (.tup [.ref a1])) e (.lst [.ref t2])) = H8 at b4A fA evA ⊢
      refine ⟨_, rfl, _, rfl, _, rfl, (by show 3 ≤ sizeLine; decide), fun u hu => ?_⟩
      have sU := same_new (o := .lst [.ref d, .int (r : Int), .ref l]) hu
      have uU : (upd H8 u (.lst [.ref d, .int (r : Int), .ref l])) u = some (.lst [.ref d, .int (r : Int), .ref l]) := upd_same
      have b4U := b4A.then sU
      have fU := fA.same sU
      have evU := Vf.EvAt.same evA sU
      generalize (upd H8 u (.lst [.ref d, .int (r : Int), .ref l])) = H9 at b4U fU evU uU ⊢
      refine ⟨_, rfl, _, rfl, _, rfl, _, rfl, _, rfl, o, e, most, rs, [[⟨sWrite, c0'.1, [none]⟩]], rfl, Vf.OrdAt.but ord4 f4 b4U, evU, (by show 1 ≤ 3; decide), lrs, nodA, nd, hm1000, fun q kvs xs H10 s10 hq gr xne xle => ⟨(by show 4 ≤ sizeLine; decide), fun t ht => ?_⟩, fun habs H10 s10 => ?_⟩
      · have sT := same_new (o := .lst [.ref u, .ref o, .ref e, .ref q]) ht
        have b4F := b4U.then (s10.trans sT)
        exact k t d l o e q cs r ps rs [[⟨sWrite, c0'.1, [none]⟩]] _ (b04.trans b4F) (fU.same (s10.trans sT)) ⟨⟨u, upd_same, sT _ _ (s10 _ _ uU)⟩, b4F _ _ d4p hd4, good, r1, r32, Vf.InLines.but il4 f4 b4F, Vf.OrdAt.but ord4 f4 b4F, hrs, Vf.EvAt.same evU (s10.trans sT), (by show 1 ≤ 3; decide), (by show 1 ≤ 1; decide), nodA, ⟨kvs, xs, gr.same sT, xne, xle⟩⟩
      · have := habs _ (closed_one (rs.map Prod.snd) c0'.1 sWrite)
        simp only [List.length_cons, List.length_nil] at this
        omega
end
end Vf

set_option maxRecDepth 100000
set_option maxHeartbeats 8000000
namespace Vf
open PySem PySem.Spec PyProof.Rows L2
theorem GoodTg.mono {a b : Nat} {tg : List (Option Nat)} (g : GoodTg a tg) (h : a ≤ b) : GoodTg b tg := by
  obtain ⟨ne, ks, e, e1, hr, hk⟩ := g
  exact ⟨ne, ks, e, e1, hr, fun k hk' => Nat.lt_of_lt_of_le (hk k hk') h⟩
theorem GoodNd.mono {a b : Nat} {n : Nd} (g : GoodNd a n) (h : a ≤ b) : GoodNd b n := ⟨g.word, g.cell, g.tg.mono h⟩
theorem fits_good {rs : List Str} {ns : List Nd} (h : Rows rs ns) (g : Good ns) : Fits (Txt.join sNl rs) := by
  have key : ∀ r ∈ rs, r.length ≤ 600 ∧ (Txt.split r sSp).length ≤ 4000 := by
    have ga := g.all
    have h8 := g.few
    generalize hm : ns.length = many at ga
    have hmany : many ≤ 8 := by omega
    clear hm g h8
    induction h with
    | nil => exact fun _ hr => nomatch hr
    | @cons n rs ns f _ ih =>
      intro r hr
      rcases List.mem_cons.mp hr with rfl | hr
      · have gn := ga n List.mem_cons_self
        refine ⟨rowS_le gn (by omega) f, ?_⟩
        rw [split_row gn f]
        have := rowW_len gn f
        omega
      · exact ih (fun y hy => ga y (List.mem_cons_of_mem _ hy)) r hr
  refine ⟨?_, fun r hr => ?_⟩
  · have := join_le (y := sNl) fun r hr => (key r hr).1
    have e : sNl.length = 1 := by decide +kernel
    rw [e, h.len] at this
    have := g.few
    omega
  · rw [split_rows h g.all g.some] at hr
    exact (key r hr).2
theorem pgood {rs : List Str} {ns : List Nd} (h : Rows rs ns) (g : Good ns) : parseT (Txt.join sNl rs) = some ns := parse_good h g.some g.few g.all
end Vf

set_option maxRecDepth 100000
set_option maxHeartbeats 16000000
namespace Vf
open PySem PySem.Spec PyProof.Rows L2
theorem cr_listNK {X : Cx} {P : Program} {w : World} (hP : X.prog = P) (hw : X.w = w) (hc : X.calm = true) : CallR X (.type "list") (rListN P w) := by
  subst hP hw
  exact cr_listN hc
theorem thr_of {C : Addr} {H : Hp} : ∀ (qs : List (Addr × List Nd)) (xs : List V), xs.length = qs.length → (∀ (i : Nat) (q : Addr × List Nd) (v : V), qs[i]? = some q → xs[i]? = some v → ∃ (pp : Addr) (z : Str), v = .ref pp ∧ ProgAt C H pp z q.2) →
    ∃ ps : List (Addr × Str × List Nd), xs = ps.map (fun p => V.ref p.1) ∧ ps.map (fun p => p.2.2) = qs.map Prod.snd ∧ ∀ p ∈ ps, ProgAt C H p.1 p.2.1 p.2.2
  | [], [], _, _ => ⟨[], rfl, rfl, (fun _ h => nomatch h)⟩
  | [], _ :: _, h, _ => by simp at h
  | _ :: _, [], h, _ => by simp at h
  | q :: qs, v :: xs, h, hp => by
    obtain ⟨pp, z, rfl, hpr⟩ := hp 0 q v rfl rfl
    obtain ⟨ps, e1, e2, e3⟩ := thr_of qs xs (by simpa using h) fun i a u h1 h2 => hp (i + 1) a u (by simpa using h1) (by simpa using h2)
    refine ⟨(pp, z, q.2) :: ps, by rw [e1]; rfl, by rw [List.map_cons, e2]; rfl, fun p hm => ?_⟩
    rcases List.mem_cons.mp hm with rfl | hm
    · exact hpr
    · exact e3 p hm
theorem sts_of {α : Type} {H : Hp} {es : List (List Nd)} {ls : List (List Str)} : ∀ (l : List α) (xs : List V), xs.length = l.length → (∀ (i : Nat) (a : α) (v : V), l[i]? = some a → xs[i]? = some v → ∃ q pl held, v = .ref q ∧ StT H q pl held ∧ OkSt es ls pl held) →
    ∃ ws : List Wt, xs = ws.map (fun q => V.ref q.1) ∧ ws.length = l.length ∧ ∀ q ∈ ws, StT H q.1 q.2.1 q.2.2 ∧ OkSt es ls q.2.1 q.2.2
  | [], [], _, _ => ⟨[], rfl, rfl, (fun _ h => nomatch h)⟩
  | [], _ :: _, h, _ => by simp at h
  | _ :: _, [], h, _ => by simp at h
  | a :: l, v :: xs, h, hp => by
    obtain ⟨q, pl, held, rfl, hst, hok⟩ := hp 0 a v rfl rfl
    obtain ⟨ws, e1, e2, e3⟩ := sts_of l xs (by simpa using h) fun i b u h1 h2 => hp (i + 1) b u (by simpa using h1) (by simpa using h2)
    refine ⟨(q, pl, held) :: ws, by rw [e1]; rfl, by rw [List.length_cons, e2, List.length_cons], fun r hm => ?_⟩
    rcases List.mem_cons.mp hm with rfl | hm
    · exact ⟨hst, hok⟩
    · exact e3 r hm
theorem ProgAt.butL {C D : Addr} {H H' : Hp} {p : Addr} {z : Str} {ns : List Nd} {acc : List V} (h : ProgAt C H p z ns) (b : But D H H') (hD : H D = some (.lst acc)) : ProgAt C H' p z ns := by
  obtain ⟨dx, t, h1, h2⟩ := h
  exact ⟨dx, t, b _ _ (ne_of h1 hD (by intro z; cases z)) h1, NodesAt.tups h2 (Vf.But.tups b hD)⟩
theorem feed_keep {p q : Addr} {H H' : Hp} {u : HO} (f : FeedAt H p) (b : But p H H') (h : H q = some u) (hu : ∀ xs, u ≠ .lst xs) : H' q = some u := by
  obtain ⟨d, st, e, _⟩ := f
  exact b _ _ (ne_of h e (hu _)) h
theorem LayAt.feed {C p x sd nd : Addr} {H H' : Hp} {cs : List (Str × Nat)} {r : Nat} {ls : List (List Str)} (h : LayAt C H x sd nd cs r ls) (f : FeedAt H p) (b : But p H H') : LayAt C H' x sd nd cs r ls := by
  obtain ⟨dx, t, qs, h1, h2, h3, h4, h5⟩ := h
  exact ⟨dx, t, qs, feed_keep f b h1 (fun _ z => by cases z), feed_keep f b h2 (fun _ z => by cases z), feed_keep f b h3 (fun _ z => by cases z), ⟨FeedAt.tups f b _ _ h4.1, fun q hq => FeedAt.tups f b _ _ (h4.2 q hq)⟩, h5⟩
theorem ProgAt.feed {C p x : Addr} {H H' : Hp} {z : Str} {ns : List Nd} (h : ProgAt C H x z ns) (f : FeedAt H p) (b : But p H H') : ProgAt C H' x z ns := by
  obtain ⟨dx, t, h1, h2⟩ := h
  exact ⟨dx, t, feed_keep f b h1 (fun _ z => by cases z), NodesAt.tups h2 (FeedAt.tups f b)⟩
end Vf

set_option maxRecDepth 100000
set_option maxHeartbeats 4000000
namespace Vf
open PySem PySem.Spec PyProof.Rows L2
section
variable {P : Program} {w : World} {K : PySem.W.Frag} {mg mb : Str → Option Value} {a c T : Addr} {s₁ : Shared} {vs : List Value} {H : Hp}
/-- what H tracks ahead of the statement: the table, and the script unless the top has it -/
structure Ahead (K : PySem.W.Frag) (h : Heap) (a T : Addr) (vs : List Value) (H : Hp) : Prop where
  tab : H T = some (.tbl #[])
  atT : h.get? T = some { cls := .none, data := .fields #[] }
  only : ∀ b u, H b = some u → b = T ∨ (b = a ∧ K.lookup a = none ∧ ∃ xs, u = .frz { cls := .type "list", data := .seq vs.toArray } (.lst xs))
  noT : K.lookup T = none
variable (W : Ahead K s₁.heap a T vs H) (at_a : s₁.heap.get? a = some { cls := .type "list", data := .seq vs.toArray })
include W at_a
theorem Ahead.free {b : Addr} {o : Obj} (e : s₁.heap.get? b = some o) (h1 : ∀ xs n, o.data ≠ .seq xs n) (h2 : o.data ≠ .fields #[]) : H b = none := by
  match tr : H b with
  | none => rfl
  | some u =>
    rcases W.only b u tr with z | ⟨z, _, _⟩
    · rw [z, W.atT] at e
      cases e
      exact (h2 rfl).elim
    · rw [z, at_a] at e
      cases e
      exact (h1 _ _ rfl).elim
theorem Ahead.sees {b : Addr} {m : Str → Option Value} (n : s₁.heap.Ns b m) : (hidT s₁.heap H).Ns b m := by
  obtain ⟨o, es, ep, e, d, r⟩ := n
  exact ⟨o, es, ep, hidT_get e (W.free at_a e (fun _ _ z => by rw [d] at z; cases z) fun z => by rw [d] at z; cases z), d, r⟩
theorem Ahead.kin (inK : K.In s₁.heap) : K.In (hidT s₁.heap H) := by
  intro b o look
  refine hidT_get (inK b o look) ?_
  match tr : H b with
  | none => rfl
  | some u =>
    rcases W.only b u tr with z | ⟨z, none, _⟩
    · rw [z, W.noT] at look
      cases look
    · rw [z, none] at look
      cases look
theorem Ahead.env (inK : K.In s₁.heap) (nm : s₁.heap.Ns mainGlobals mg) (nb : s₁.heap.Ns builtinsNs mb) (bb : ∀ x : Str, x ≠ "__name__" → mb x = bootBuiltins x) (lim : s₁.heap.NoLimit) (gens : s₁.gens = #[]) (ok : HOk P w H s₁.heap) :
    Env0 P w K mg (hidT s₁.heap H) callerA [] s₁ H := by
  obtain ⟨mc, l1, l2⟩ := lim
  exact ⟨rfl, ⟨W.kin at_a inK, W.sees at_a nm, ⟨mb, W.sees at_a nb, bb⟩, ⟨mc, W.sees at_a l1, l2⟩⟩, fun _ _ at_b => of_hidT at_b, Nat.le_of_eq (hidT_size _ _), trivial, (fun b no => absurd (show b ∈ ([] : List Addr) from no) (by simp)), ok, AllBare.of_eq gens⟩
theorem Ahead.maker (C : PySem.W.CodeHd s₁.heap c T) (nm : s₁.heap.Ns mainGlobals mg) (bm : ∃ (bm : Addr) (ob : Obj), mg "__builtins__" = some (.ref bm) ∧ bm ≠ builtinsNs ∧ s₁.heap.get? bm = some ob ∧ ob.cls = .type "module" ∧ ob.dict = some builtinsNs ∧ ob.data = .plain) :
    LamX.TabB (hidT s₁.heap H) mg c T := by
  obtain ⟨og, es, ep, eg, dg, _⟩ := nm
  refine ⟨?_, ?_, fun z => ?_⟩
  · obtain ⟨o, us, file, tf, flags, tg, inF, text, tt, e, r1, r2, r3, rest⟩ := C
    refine ⟨o, us, file, tf, flags, tg, inF, text, tt, hidT_get e (W.free at_a e (fun _ _ z => by rw [r2] at z; cases z) fun z => ?_), r1, r2, r3, rest⟩
    rw [r2] at z
    cases z
    simp at r3
  · obtain ⟨b, ob, b1, b2, b3, b4, b5, b6⟩ := bm
    refine ⟨b, ob, b1, b2, fun z => ?_, fun z => ?_, hidT_get b3 (W.free at_a b3 (fun _ _ z => by rw [b6] at z; cases z) fun z => by rw [b6] at z; cases z), b4, b5, b6⟩
    · rw [z, eg] at b3
      cases b3
      rw [dg] at b6
      cases b6
    · rw [z, W.atT] at b3
      cases b3
      cases b6
  · rw [z, W.atT] at eg
    cases eg
    cases dg
/-- a call by the caller that tells True -/
theorem Ahead.run {CX : CXT} {k : Nat} {fa : Addr} {fd : FuncData} {x : Str} {sp : Sp} (F : FnG P w K mg (hidT s₁.heap H) CX k fa fd [x] sp) (room : Room k callerA) (bind : ∀ (s : Shared) (u : Value), BindsTo s fd ⟨[u], []⟩ [(x, u)])
    (C : PySem.W.CodeHd s₁.heap c T) (env : Env0 P w K mg (hidT s₁.heap H) callerA [] s₁ H) (q : sp [.ref a] H (fun v _ => v = .bl true) fun _ _ _ => False) (noX : ∀ e s', CX [] H s₁ (fun _ _ _ => False) e s' → False) :
    codeAny (model P w) callerA (.call (.ref fa) ⟨[.ref a], []⟩) (fun r s' => r = .ok (.ret (.bool true)) ∧ OldK s₁.heap s'.heap ∧ s'.os = s₁.os ∧ AllBare s'.gens) s₁ := by
  have one : Vals [V.ref a] [Value.ref a] := .cons rfl .nil
  refine codeAny_mono (F.run callerA [] s₁ H ⟨[.ref a], []⟩ [.ref a] [.ref a] _ _ rfl room env (bind s₁ (.ref a)) one q) fun out s' told => ?_
  match out, told with
  | .error e, told => exact (noX e s' told).elim
  | .ok .next, told => exact (told : False).elim
  | .ok .brk, told => exact (told : False).elim
  | .ok .cont, told => exact (told : False).elim
  | .ok (.ret u), told =>
    obtain ⟨v, H', eos, bare, un, ok', rel, ev⟩ := told
    obtain rfl : v = .bl true := ev
    obtain rfl : u = Value.bool true := rel
    obtain ⟨more, grown⟩ := un.tbls T #[] W.tab
    have atT' : s'.heap.get? T = some { cls := .none, data := .fields (#[] ++ more) } := ok' T _ grown
    have stay : ∀ b o, b ≠ T → s₁.heap.get? b = some o → s'.heap.get? b = some o := by
      intro b o nT at_b
      match tr : H b with
      | none => exact un.keep b o at_b tr (fun z => nomatch z) (by simp)
      | some u =>
        rcases W.only b u tr with z | ⟨_, _, xs, z⟩
        · exact absurd z nT
        · rw [z] at tr
          obtain ⟨before, _⟩ := env.hok b _ tr
          obtain ⟨behind, _⟩ := ok' b _ (un.frzs b _ _ tr)
          rw [before] at at_b
          cases at_b
          exact behind
    refine ⟨rfl, ⟨fun b o e => ?_, fun b o e => ?_⟩, eos, bare⟩
    · by_cases hb : b = T
      · subst hb
        have e' := e
        rw [W.atT] at e'
        cases e'
        exact .inr (.inl ⟨(C.tab W.atT).isCodeTable, rfl, #[], more, rfl, atT'⟩)
      · exact .inl (stay b o hb e)
    · by_cases hb : b = T
      · exact ⟨_, hb ▸ atT'⟩
      · exact ⟨o, stay b o hb e⟩
omit W at_a
theorem head_tab {CX : CXT} {k : Nat} {fa : Addr} {fd : FuncData} {x : Str} {sp : Sp} {ns : List Int} (inK : K.In s₁.heap) (nm : s₁.heap.Ns mainGlobals mg) (nb : s₁.heap.Ns builtinsNs mb) (bb : ∀ x : Str, x ≠ "__name__" → mb x = bootBuiltins x) (lim : s₁.heap.NoLimit)
    (gens : s₁.gens = #[]) (at_a : s₁.heap.get? a = some { cls := .type "list", data := .seq vs.toArray }) (isI : IntsAre vs ns) (hl : ns.length ≤ sizeLine) (room : Room k callerA)
    (atT : s₁.heap.get? T = some { cls := .none, data := .fields #[] }) (noT : K.lookup T = none) (C : PySem.W.CodeHd s₁.heap c T)
    (bm : ∃ (bm : Addr) (ob : Obj), mg "__builtins__" = some (.ref bm) ∧ bm ≠ builtinsNs ∧ s₁.heap.get? bm = some ob ∧ ob.cls = .type "module" ∧ ob.dict = some builtinsNs ∧ ob.data = .plain)
    (F : ∀ base : Heap, K.In base → base.Ns mainGlobals mg → LamX.TabB base mg c T → FnG P w K mg base CX k fa fd [x] sp) (bind : ∀ (s : Shared) (u : Value), BindsTo s fd ⟨[u], []⟩ [(x, u)])
    (hsp : ∀ H : Hp, H T = some (.tbl #[]) → SqL K H a (ns.map V.int) → sp [.ref a] H (fun v _ => v = .bl true) fun _ _ _ => False) (noX : ∀ H e s', CX [] H s₁ (fun _ _ _ => False) e s' → False) :
    codeAny (model P w) callerA (.call (.ref fa) ⟨[.ref a], []⟩) (fun r s' => r = .ok (.ret (.bool true)) ∧ OldK s₁.heap s'.heap ∧ s'.os = s₁.os ∧ AllBare s'.gens) s₁ := by
  have rel := vals_ints isI
  have short : (ns.map V.int).length ≤ sizeLine := by rwa [List.length_map]
  have aT : a ≠ T := fun z => by
    rw [z, atT] at at_a
    cases at_a
  have go : ∀ H : Hp, Ahead K s₁.heap a T vs H → HOk P w H s₁.heap → SqL K H a (ns.map V.int) → codeAny (model P w) callerA (.call (.ref fa) ⟨[.ref a], []⟩) (fun r s' => r = .ok (.ret (.bool true)) ∧ OldK s₁.heap s'.heap ∧ s'.os = s₁.os ∧ AllBare s'.gens) s₁ := by
    intro H W ok isL
    have env := W.env at_a inK nm nb bb lim gens ok (P := P) (w := w)
    exact W.run at_a (F _ env.mod.kin env.mod.glob (W.maker at_a C nm bm)) room bind C env (hsp H W.tab isL) (noX H)
  cases look : K.lookup a with
  | some o =>
    have z := inK a o look
    rw [at_a] at z
    cases z
    let H : Hp := fun b => if b = T then some (.tbl #[]) else none
    have hT : H T = some (.tbl #[]) := if_pos rfl
    refine go H ⟨hT, atT, fun b u e => ?_, noT⟩ (fun b u e => ?_) (.inr ⟨_, vs.toArray, _, look, rfl, rfl, rfl, ?_, by simpa using rel⟩)
    · by_cases hb : b = T
      · exact .inl hb
      · rw [show H b = none from if_neg hb] at e
        cases e
    · by_cases hb : b = T
      · subst hb
        rw [hT] at e
        cases e
        exact atT
      · rw [show H b = none from if_neg hb] at e
        cases e
    · rw [List.size_toArray, isI.length]
      exact hl
  | none =>
    let H : Hp := fun b => if b = T then some (.tbl #[]) else if b = a then some (.frz { cls := .type "list", data := .seq vs.toArray } (.lst (ns.map V.int))) else none
    have hT : H T = some (.tbl #[]) := if_pos rfl
    have hA : H a = some (.frz { cls := .type "list", data := .seq vs.toArray } (.lst (ns.map V.int))) := (if_neg aT).trans (if_pos rfl)
    have hN : ∀ b, b ≠ T → b ≠ a → H b = none := fun b h1 h2 => (if_neg h1).trans (if_neg h2)
    refine go H ⟨hT, atT, fun b u e => ?_, noT⟩ (fun b u e => ?_) (.inl (.inr ⟨_, hA⟩))
    · by_cases hb : b = T
      · exact .inl hb
      · by_cases hc : b = a
        · subst hc
          rw [hA] at e
          cases e
          exact .inr ⟨rfl, look, _, rfl⟩
        · rw [hN b hb hc] at e
          cases e
    · by_cases hb : b = T
      · subst hb
        rw [hT] at e
        cases e
        exact atT
      · by_cases hc : b = a
        · subst hc
          rw [hA] at e
          cases e
          exact ⟨at_a, short, vs, _, rel, at_a⟩
        · rw [hN b hb hc] at e
          cases e
end
theorem walk_tab {l : PySem.W.OpenLaw} {n k : Nat} {q : Program} {loose : List Str} {XP : (Str → Option Value) → Heap → Prop} {YP : World → Heap → Prop} {d : DefRec} {K : Params → PySem.W.Frag} {CX : World → CXT} {sp : World → Addr → Sp} {x : Str}
    (hn : l.most = some n) (fits : n ≤ sizeLine) (hdf : d.params.defaults = []) (room : Room k callerA) (inK : ∀ (w : World) (h : Heap), YP w h → (K w.params).In h)
    (F : ∀ (w : World) (mg : Str → Option Value) (fa : Addr) (h : Heap), YP w h → (K w.params).In h → h.Ns mainGlobals mg → mg d.name = some (.ref fa) →
      ∃ (fd : FuncData) (c T : Addr), (∀ (s : Shared) (u : Value), BindsTo s fd ⟨[u], []⟩ [(x, u)]) ∧ h.get? T = some { cls := .none, data := .fields #[] } ∧ (K w.params).lookup T = none ∧ PySem.W.CodeHd h c T ∧
        ∀ base : Heap, (K w.params).In base → base.Ns mainGlobals mg → LamX.TabB base mg c T → FnG l.prog w (K w.params) mg base (CX w) k fa fd [x] (sp w T))
    (hsp : ∀ (w : World) (T : Addr) (H : Hp) (a : Addr) (ns : List Int), ns.length ≤ n → H T = some (.tbl #[]) → SqL (K w.params) H a (ns.map V.int) → sp w T [.ref a] H (fun v _ => v = .bl true) fun _ _ _ => False)
    (noX : ∀ (w : World) (H : Hp) (s : Shared) (e : Value) (s' : Shared), CX w [] H s (fun _ _ _ => False) e s' → False) :
    PySem.W.WalkO q loose XP YP l.row.toRowW d [] (fun f vs => PySem.call f vs) := by
  refine Att.attach_call hn hdf fun w s₀ s₁ mg mb fa o pm cd doc a vs ns G Y _ _ _ hmg at_a isI few gens => ?_
  obtain ⟨fd, c, T, bind, atT, noT, C, hF⟩ := F w mg fa _ Y (inK w _ Y) G.T.g hmg
  exact head_tab (inK w _ Y) G.T.g G.T.b G.T.builtins G.T.nolimit gens at_a isI (Nat.le_trans few fits) room atT noT C G.T.bmain hF bind (fun H hT hS => hsp w T H a ns few hT hS) fun H e s' => noX w H s₁ e s'
end Vf

set_option maxRecDepth 100000
set_option maxHeartbeats 32000000
namespace Vf
open PySem PySem.Spec PyProof.Rows L2
theorem LayAt.ext {C : Addr} {H H' : Hp} {p sd nd : Addr} {cs : List (Str × Nat)} {r : Nat} {ls : List (List Str)} (h : LayAt C H p sd nd cs r ls) (s : LamX.ExtN H H') : LayAt C H' p sd nd cs r ls := by
  obtain ⟨dx, t, qs, h1, h2, h3, h4, h5⟩ := h
  have go : ∀ {a : Addr} {o : HO}, H a = some o → (∀ ps, o ≠ .tbl ps) → H' a = some o := fun e n => s _ _ e n
  exact ⟨dx, t, qs, go h1 (by intro ps z; cases z), go h2 (by intro ps z; cases z), go h3 (by intro ps z; cases z), ⟨go h4.1 (by intro ps z; cases z), fun q hq => go (h4.2 q hq) (by intro ps z; cases z)⟩, h5⟩
theorem Fit.ext {C CP : Addr} {K : PySem.W.Frag} {H H' : Hp} {p sd nd l : Addr} {cs : List (Str × Nat)} {r : Nat} {ls : List (List Str)} {ps : List (Addr × Str × List Nd)} (f : Fit C CP K H p sd nd l cs r ls ps) (s : LamX.ExtN H H') : Fit C CP K H' p sd nd l cs r ls ps := ⟨LayAt.ext f.lay s, Vf.ThrAt.ext f.thr s, f.good, f.few, f.fewl, f.nodes, f.fewS⟩
theorem Tabs.put {T : List (Addr × Str)} {H : Hp} {l : Addr} {xs ys : List V} (t : LamX.Tabs T H) (hl : H l = some (.lst xs)) : LamX.Tabs T (upd H l (.lst ys)) := by
  intro p hp
  obtain ⟨ps, h1, h2, h3⟩ := t p hp
  refine ⟨ps, by rw [upd_ne (ne_of h1 hl (by intro z; cases z))]; exact h1, h2, fun pos cv hc => ?_⟩
  obtain ⟨c, e1, e2⟩ := h3 pos cv hc
  exact ⟨c, e1, by rw [upd_ne (ne_of e2 hl (by intro z; unfold LamX.CodeO at z; cases z))]; exact e2⟩
/-- a list of lists of texts -/
structure TextsAt (H : Hp) (x : Addr) (rs : List (Addr × List Str)) : Prop where
  at_ : H x = some (.lst (rs.map fun r => V.ref r.1))
  each : ∀ r ∈ rs, H r.1 = some (.lst (r.2.map V.str))
theorem TextsAt.ext {H H' : Hp} {x : Addr} {rs : List (Addr × List Str)} (t : TextsAt H x rs) (s : LamX.ExtN H H') : TextsAt H' x rs := ⟨s _ _ t.at_ (by intro ps z; cases z), fun r hr => s _ _ (t.each r hr) (by intro ps z; cases z)⟩
theorem TextsAt.same {H H' : Hp} {x : Addr} {rs : List (Addr × List Str)} (t : TextsAt H x rs) (s : Same H H') : TextsAt H' x rs := t.ext (LamX.ExtN.of s)
def textsD (ks : List (List Str)) : PyData := .list (ks.map fun r => .list (r.map .str))
theorem dp_texts {K : PySem.W.Frag} {H : Hp} {x : Addr} {rs : List (Addr × List Str)} {xs : List V} (hx : H x = some (.lst xs)) (e : xs = rs.map fun r => V.ref r.1) (h : ∀ r ∈ rs, H r.1 = some (.lst (r.2.map V.str))) : Dp K H (.ref x) (textsD (rs.map Prod.snd)) := by
  unfold textsD
  rw [List.map_map]
  subst e
  exact .lst (SqL.of hx) (dp_map fun r hr => .lst (SqL.of (h r hr)) (dp_map fun z _ => .str z))
def smallZ (z : Str) : Prop := shD (.str z) = true ∧ (PyData.str z).weight ≤ 12
theorem small_kind (f p : Bool) : smallZ (kindZ f p) := by
  unfold smallZ
  cases f <;> cases p <;> decide +kernel
theorem sh_texts {ks : List (List Str)} (h : ∀ r ∈ ks, r.length ≤ 100 ∧ ∀ z ∈ r, smallZ z) (few : ks.length ≤ 100) : shD (textsD ks) = true ∧ (textsD ks).weight ≤ 1000000 ∧ (textsD ks).depth ≤ 64 := by
  have row : ∀ r ∈ ks, shD (.list (r.map .str)) = true ∧ (PyData.list (r.map PyData.str)).weight ≤ 1400 ∧ (PyData.list (r.map PyData.str)).depth ≤ 2 := fun r hr => by
    obtain ⟨h1, h2⟩ := h r hr
    have a := shAll_map (f := PyData.str) (l := r) fun z hz => (h2 z hz).1
    have b := weightAll_map (f := PyData.str) (b := 12) (l := r) fun z hz => (h2 z hz).2
    have c := depthAll_map (f := PyData.str) (n := 0) (l := r) fun z hz => by simp [PyData.depth]
    rw [shD, PyData.weight, PyData.depth]
    exact ⟨a, by omega, by omega⟩
  have a := shAll_map (f := fun r : List Str => PyData.list (r.map .str)) (l := ks) fun r hr => (row r hr).1
  have b := weightAll_map (f := fun r : List Str => PyData.list (r.map .str)) (b := 1400) (l := ks) fun r hr => (row r hr).2.1
  have c := depthAll_map (f := fun r : List Str => PyData.list (r.map .str)) (n := 2) (l := ks) fun r hr => (row r hr).2.2
  unfold textsD
  rw [shD, PyData.weight, PyData.depth]
  exact ⟨a, by omega, by omega⟩
theorem small_kinds {ls : List (List Str)} {es : List (List Nd)} {k0 : NK} (h : ∀ ns ∈ es, ns.length ≤ 100) : ∀ r ∈ kindsOf ls es k0, r.length ≤ 100 ∧ ∀ z ∈ r, smallZ z := fun r hr => by
  unfold kindsOf at hr
  obtain ⟨p, hp, rfl⟩ := List.mem_map.mp hr
  refine ⟨?_, fun z hz => ?_⟩
  · rw [List.length_map, List.length_range]
    have := List.mem_zipIdx' hp
    exact h _ (by rw [this.2]; exact List.getElem_mem _)
  · obtain ⟨n, _, rfl⟩ := List.mem_map.mp hz
    exact small_kind _ _
theorem kindsOf_len (ls : List (List Str)) (es : List (List Nd)) (k0 : NK) : (kindsOf ls es k0).length = es.length := by
  unfold kindsOf
  rw [List.length_map, List.length_zipIdx]
theorem kindsOf_get {ls : List (List Str)} {es : List (List Nd)} {k0 : NK} {i : Nat} {ns : List Nd} (h : es[i]? = some ns) : (kindsOf ls es k0)[i]? = some ((List.range ns.length).map (kindOf ls es k0 i)) := by
  unfold kindsOf
  rw [List.getElem?_map, List.getElem?_zipIdx, h]
  simp
/-- what is new behind node_kinds stays apart -/
theorem KindsAt.texts {H0 H : Hp} {x : Addr} {ks : List (List Str)} (k : KindsAt H0 H x ks) : ∃ rs : List (Addr × List Str), TextsAt H x rs ∧ rs.map Prod.snd = ks ∧ (rs.map Prod.fst).Nodup ∧ (∀ r ∈ rs, r.1 ≠ x) ∧ ∀ b o, H0 b = some o → (∀ ps, o ≠ .tbl ps) → b ≠ x ∧ ∀ r ∈ rs, b ≠ r.1 := by
  obtain ⟨rs, h1, h2, h3, h4, h5⟩ := k.ex
  exact ⟨rs, ⟨h1, fun r hr => (h3 r hr).1⟩, h2, h4, fun r hr => (h3 r hr).2, h5⟩
end Vf

set_option maxRecDepth 100000
set_option maxHeartbeats 32000000
namespace Vf
open PySem PySem.Spec PyProof.Rows L2
theorem cut1 (xs : List V) : cutV xs (some 1) none = xs.drop 1 := by
  unfold cutV
  rw [HT.sIx_none, show HT.sIx xs.length 0 (some 1) = min 1 xs.length from HT.sIx_nat _ _ 1]
  by_cases h : 1 ≤ xs.length
  · rw [Nat.min_eq_left h, List.take_of_length_le (by rw [List.length_drop]; exact Nat.le_refl _)]
  · rw [Nat.min_eq_right (by omega), Nat.sub_self, List.take_zero, List.drop_of_length_le (by omega)]
section
variable {P : Program} {w : World} {K : PySem.W.Frag} {mg : Str → Option Value} {base : Heap}
def sp_law (K : PySem.W.Frag) (Tb : Addr) : Sp := fun vs H Q _ => ∃ (a : Addr) (ns : List Int), vs = [.ref a] ∧ SqL K H a (ns.map V.int) ∧ ns.length ≤ 63 ∧ LamX.Tabs (tabE Tb) H ∧ ∀ H', Q (.bl true) H'
theorem ok_law {f C fI CP Tb gp pp : Addr} {mc : Value} {fd fdI fdp : FuncData} (F : Fun K "law" "law" s_law f fd) (T : Txt0 K mg) (hmin : mg "min" = none) (hrepr : mg "repr" = none) (TL : TxtL K mg C) (TP : TxtP K mg CP)
    (GF : OkF P w K mg base CX0 "_law_feed" p_law_feed 1 (sp_law_feed K)) (GCa : OkF P w K mg base CX0 "_law_case" p_law_case 5 (sp_law_case P w)) (GX : OkF P w K mg base CX0 "_law_text" p_law_text 1 sp_law_text)
    (GT' : OkF P w K mg base CX0 "_law_take" p_law_take 1 sp_law_take) (GG : OkF P w K mg base CX0 "_law_graph" p_law_graph 2 (sp_law_graph P w)) (GK : OkF P w K mg base CX0 "_law_kind" p_law_kind 1 (sp_law_kind P w))
    (GN : OkF P w K mg base CX0 "node_kinds" p_node_kinds 8 (sp_node_kinds K C CP Tb))
    (MK : Mk K C fI) (GI : FnOk P w K mg base CX0 4 fI fdI p_Layout_init (sp_Layout_init C)) (bI : Binds K fdI p_Layout_init [])
    (RD : ClX.CRead K CP mc) (SM : SMet K CP mc "parse" pp gp) (PP : FnOk P w K mg base CX0 6 gp fdp p_Program_parse (sp_parse CP)) (bP : Binds K fdp p_Program_parse []) :
    FnG P w K mg base CX0 9 f fd p_law (sp_law K Tb) := by
  refine Vf.Fun.okG F sc_law (fun vs H Q E h => ?_) (fun cdv A outer s H vs Q E hcm hr h => ?_)
  · obtain ⟨a, ns, rfl, _⟩ := h
    rfl
  · obtain ⟨a, ns, rfl, hS, hn63, tb, k⟩ := h
    have hr1 : Room 1 _ := hr.mono (by decide)
    have hr2 : Room 2 _ := hr.mono (by decide)
    have hr5 : Room 5 _ := hr.mono (by decide)
    have hr6 : Room 6 _ := hr.mono (by decide)
    refine ⟨_, pss_cons (ps_for PassesOwn.never rfl (pi_range1 (by rfl) T.range (pa_cons (pe_callB (call_max2 rfl) (by rfl) T.max (by decide +kernel) (pa_cons pe_int (pa_cons (pe_callB (call_min2 rfl) (by rfl) hmin (by decide +kernel) (pa_cons pe_int (pa_cons (pe_callB call_len_seq (by rfl) T.len PySem.boot_len (pa_cons (pv 0) pa_nil)) pa_nil))) pa_nil))) pa_nil)) (pg_name (i := 1) sc_law.nd rfl (Or.inl rfl))
        (pss_cons (ps_set (i := 2) sc_law.nd rfl (Or.inl rfl) (pe_fn GF hr1 rfl pass0 (pa_cons (pv 0) (pa_cons (pv 1) pa_nil))))
        (pss_cons (ps_asg (pe_fn GCa hr5 rfl pass0 (pa_cons (pv 2) (pa_cons pe_int pa_nil))) (pg_lst (by rfl) (pgs_cons (pg_name (i := 3) sc_law.nd rfl (Or.inl rfl)) (pgs_cons (pg_name (i := 4) sc_law.nd rfl (Or.inl rfl)) (pgs_cons (pg_name (i := 5) sc_law.nd rfl (Or.inl rfl)) (pgs_cons (pg_name (i := 6) sc_law.nd rfl (Or.inr rfl)) pgs_nil))))))
        (C8.pss_cut (ps_if (PW.pt (pw_and (pt_cmpR op_eq (pe_callB call_len_seq (by rfl) T.len PySem.boot_len (pa_cons (pv 5) pa_nil)) pe_int (nomark _)) (pw_and1 (pt_cmpR op_eq (pe_fn GT' hr1 rfl pass0 (pa_cons (pv 2) (pa_cons pe_int pa_nil))) pe_int (nomark _))))) (pss_cons (ps_set (i := 7) sc_law.nd rfl (Or.inl rfl) (pe_fn GG hr2 rfl pass0 (pa_cons (pv 4) (pa_cons (pe_lst (pa_cons (pe_ix ix_list (pv 5) pe_int (fun _ _ => rfl)) (pa_cons (pe_ix ix_list (pv 5) pe_int (fun _ _ => rfl)) pa_nil))) (pa_cons pe_int pa_nil)))))
        (pss_cons (ps_set (i := 5) sc_law.nd rfl (Or.inl rfl) (pe_ifExp (pt_cmpR op_isN (pv 7) pe_non (nomark _)) (pv 5) (pe_lst (pa_cons (pe_ix ix_list (pv 5) pe_int (fun _ _ => rfl)) (pa_cons (pe_ix ix_list (pv 5) pe_int (fun _ _ => rfl)) pa_nil)))))
        (pss_one (ps_set (i := 6) sc_law.nd rfl (Or.inr rfl) (pe_ifExp (pt_cmpR op_isN (pv 7) pe_non (nomark _)) (pv 6) (pv 7)))))) pss_nil)
        (pss_cons (ps_set (i := 8) sc_law.nd rfl (Or.inl rfl) (pe_make MK GI hr5 rfl TL.mgC bI .nil pass0 (pa_cons (pe_ix ix_list (pv 3) pe_int (fun _ _ => rfl)) (pa_cons (pe_ix ix_list (pv 3) pe_int (fun _ _ => rfl)) (pa_cons (pe_ix ix_list (pv 3) pe_int (fun _ _ => rfl)) pa_nil)))))
        (pss_cons (ps_setLc (i := 9) (own := [("nodes", 12)]) (g := gName 12) (tt := tYes) rfl sc_law.nd rfl rfl (sw_true rfl rfl rfl (by decide +kernel)) (pi_list (pv 5)) (blkOk_by (N := n_law) (sc := defScope s_law) (by decide +kernel)) (fun _ _ _ _ _ => (pg_name (i := 12) sc_law.nd rfl (Or.inl rfl))) (fun _ _ _ _ _ => pts_nil) (fun _ _ _ _ _ => pe_smeth (pe_glob (v := .ref CP) rfl TP.mgC rfl) RD SM PP hr6 bP .nil pass0 (pa_cons (pe_fn GX hr1 rfl pass0 (pa_cons (pv 12) pa_nil)) pa_nil)))
        (pss_cons (ps_set (i := 10) sc_law.nd rfl (Or.inl rfl) (pe_lst pa_nil))
        (pss_cons (ps_for PassesOwn.never rfl (pi_enum (by rfl) T.enumerate (pa_cons (pv 5) pa_nil)) (pg_tup (by rfl) (pgs_cons (pg_name (i := 11) sc_law.nd rfl (Or.inr rfl)) (pgs_cons (pg_name (i := 12) sc_law.nd rfl (Or.inl rfl)) pgs_nil))) (pss_one (ps_expr (pe_bm PySem.F.plainAttrs_list PySem.F.slot_list_append PySem.F.type_list_append mt_append (pv 10) (pa_cons (pe_lc (own := [("node", 14)]) (g := gName 14) (tt := tYes) rfl sc_law.nd (pi_range1 (by rfl) T.range (pa_cons (pe_callB call_len_seq (by rfl) T.len PySem.boot_len (pa_cons (pv 12) pa_nil)) pa_nil)) (blkOk_by (N := n_law) (sc := defScope s_law) (by decide +kernel)) (fun _ _ _ _ _ => (pg_name (i := 14) sc_law.nd rfl (Or.inl rfl))) (fun _ _ _ _ _ => pts_nil) (fun _ _ _ _ _ => pe_fn GK hr1 rfl pass0 (pa_cons (pv 6) (pa_cons (pv 11) (pa_cons (pv 14) pa_nil))))) pa_nil)))))
        (pss_cons (ps_set (i := 13) sc_law.nd rfl (Or.inl rfl) (pe_fn GN hr rfl pass0 (pa_cons (pv 8) (pa_cons (pv 9) pa_nil))))
        (pss_cons (ps_if (pt_cmpR op_ne (pe_callB (cr_reprA hcm hr) (by rfl) hrepr boot_repr (pa_cons (pv 13) pa_nil)) (pe_callB (cr_reprA hcm hr) (by rfl) hrepr boot_repr (pa_cons (pv 10) pa_nil)) (nomark _)) (pss_one (ps_ret pe_bl)) pss_nil)
        (pss_cons (ps_expr (pe_bm PySem.F.plainAttrs_list PySem.F.slot_list_append PySem.F.type_list_append mt_append (pe_ix ix_list (pv 13) pe_int (fun _ _ => rfl)) (pa_cons pe_non pa_nil)))
        (pss_cons (ps_if (pt_cmpR (op_neD hr.units) (pe_slice sl_list (pv 13) (po_some pe_int) po_none) (pe_slice sl_list (pv 10) (po_some pe_int) po_none) (nomark _)) (pss_one (ps_ret pe_bl)) pss_nil)
        (pss_cons (ps_expr (pe_bm0 PySem.F.plainAttrs_list PySem.F.slot_list_clear PySem.F.type_list_clear mt_clear (pv 13)))
        (pss_one (ps_if (pt_cmpR (op_neD hr.units) (pe_fn GN hr rfl pass0 (pa_cons (pv 8) (pa_cons (pv 9) pa_nil))) (pv 10) (nomark _)) (pss_one (ps_ret pe_bl)) pss_nil)))))))))))))))
      (pss_one (ps_ret pe_bl)), ?_⟩
    refine ⟨_, rfl, a, _, rfl, .inl hS, _, _, rfl, _, _, rfl, ?_⟩
    rw [List.length_map]
    obtain ⟨M, hM, hM5⟩ : ∃ M : Nat, (if (if ((ns.length : Nat) : Int) < 3 then ((ns.length : Nat) : Int) else 3) > 1 then (if ((ns.length : Nat) : Int) < 3 then ((ns.length : Nat) : Int) else 3) else 1) = (M : Int) ∧ M ≤ 3 := by
      by_cases h1 : ((ns.length : Nat) : Int) < 3
      · rw [if_pos h1]
        by_cases h2 : ((ns.length : Nat) : Int) > 1
        · rw [if_pos h2]
          exact ⟨ns.length, rfl, by omega⟩
        · rw [if_neg h2]
          exact ⟨1, rfl, by decide⟩
      · rw [if_neg h1]
        exact ⟨3, rfl, by decide⟩
    rw [hM]
    refine ⟨_, rfl, by omega, by omega, ?_⟩
    rw [Int.toNat_natCast]
    refine for_it (walk_range (lo := 0) (n := M)) (fun i σ H' => ∃ (v1 v2 v3 v4 v5 v6 v7 v8 v9 v10 v11 v12 v13 v14 : Option V), σ = [some (.ref a), v1, v2, v3, v4, v5, v6, v7, v8, v9, v10, v11, v12, v13, v14] ∧ LamX.ExtN H H' ∧ LamX.Tabs (tabE Tb) H')
      ⟨none, none, none, none, none, none, none, none, none, none, none, none, none, none, rfl, LamX.ExtN.refl _, tb⟩ (fun _ _ _ _ _ => trivial) ?_ ?_
    · rintro i x σ H2 H3 hi ⟨v1, v2, v3, v4, v5, v6, v7, v8, v9, v10, v11, v12, v13, v14, rfl, s2, tb2⟩ ⟨rfl, rfl⟩
      refine ⟨_, rfl, _, rfl, a, ns, i, (by show [V.ref a, V.int (0 + (i : Int))] = _; rw [Int.zero_add]), Vf.SqL.ext hS s2, by omega, fun p H4 s4 hp0 f4 => ?_⟩
      refine ⟨_, rfl, p, 80, rfl, f4, by decide, by decide, fun t d l o e g cs r ps rs es H5 b5 f5 ca => ?_⟩
      have s35 : Same H3 H5 := b5.same s4 hp0
      obtain ⟨⟨u, t1, t2⟩, d1, good, r1, r32, il, ord, lin, ev0, few0, pos0, nod0, ⟨kvs0, xs0, gr0, xne0, xle0⟩⟩ := id ca
      have ne : ∀ q ∈ ps, q.2 ≠ [] := fun q hq => (il.each q hq).2.1
      have lrs : rs.length ≤ 6 := by
        have e := congrArg List.length lin
        rw [List.length_map] at e
        have := (linesOf_good good il.perm ne).few
        omega
      have nd : (rs.map Prod.snd).flatten.Nodup := by
        rw [lin]
        exact linesOf_nodup good il.perm
      have ln6 : (linesOf ps).length ≤ 6 := (linesOf_good good il.perm ne).few
      refine ⟨t, _, rfl, SqL.of t1, rfl, _, _, rfl, _, _, rfl, _, _, rfl, _, _, rfl, rfl, ?_⟩
      refine ⟨fun σ H' => ∃ (v7 : Option V) (e g : Addr) (es : List (List Nd)) (kvs : List (NK × V)) (xs : List (NK × Addr × Value)), σ = [some (.ref a), some (.int (0 + (i : Int))), some (.ref p), some (.ref u), some (.ref o), some (.ref e), some (.ref g), v7, v8, v9, v10, v11, v12, v13, v14] ∧ But p H5 H' ∧ FeedAt H' p ∧
        EvAt H' e es ∧ GraphAt P w H' g es (rs.map Prod.snd) kvs xs ∧ es.length ≤ 3 ∧ 1 ≤ es.length ∧ GoodEs es (rs.map Prod.snd) ∧ xs.length ≤ 80, ?_, ?_⟩
      · obtain ⟨Qs, hQ1, hQ2, hQ3⟩ := id ev0
        have lQ : Qs.length = es.length := by rw [← hQ2, List.length_map]
        refine ⟨_, rfl, e, _, rfl, .inl (SqL.of hQ1), rfl, _, rfl, ?_⟩
        rw [List.length_map, lQ]
        by_cases h2 : es.length = 2
        · rw [decide_eq_true (p := V.int ((es.length : Nat) : Int) = V.int 2) (by rw [h2]; rfl)]
          refine iteT ⟨_, rfl, p, 2, rfl, f5, by decide, by decide, fun r5 H6 hr5 b6 f6 => ⟨rfl, _, rfl, ?_⟩⟩
          have ev6 := Vf.EvAt.but ev0 f5 b6
          have gr6 := gr0.but f5 b6
          by_cases c0 : r5 = 0
          · rw [decide_eq_true (p := V.int (r5 : Int) = V.int 0) (by rw [c0]; rfl)]
            obtain ⟨q0, hq0⟩ : ∃ q, Qs[0]? = some q := ⟨_, List.getElem?_eq_getElem (by omega)⟩
            have hQ16 := b6 _ _ (feed_neR f5 hQ1) hQ1
            have at0 : atI (Qs.map fun q => V.ref q.1) 0 = some (V.ref q0.1) := atI_nat (j := 0) (by rw [List.getElem?_map, hq0]; rfl)
            refine iteT ⟨_, rfl, _, rfl, e, _, 0, _, rfl, rfl, SqL.of hQ16, at0, _, rfl, e, _, 0, _, rfl, rfl, SqL.of hQ16, at0, (by show 2 ≤ sizeLine; decide), fun eb heb => ?_⟩
            have s7 := same_new (o := .lst [.ref q0.1, .ref q0.1]) heb
            have hq0m := List.mem_of_getElem? hq0
            have hn0 : q0.2 ∈ es := by
              rw [← hQ2]
              exact List.mem_map_of_mem hq0m
            have nod2 : GoodEs [q0.2, q0.2] (rs.map Prod.snd) := fun ns h => by
              rcases List.mem_cons.mp h with rfl | h
              · exact nod0 _ hn0
              · rw [List.mem_singleton.mp h]
                exact nod0 _ hn0
            have nod0' : NodesAt H6 q0.1 q0.2 := NodesAt.tups (hQ3 q0 hq0m) (FeedAt.tups f5 b6)
            have mkEv : ∀ {H' : Hp} {z : Addr}, Same H6 H' → H' z = some (.lst [.ref q0.1, .ref q0.1]) → EvAt H' z [q0.2, q0.2] := fun s e => ⟨[q0, q0], e, rfl, fun q hq => by
              rcases List.mem_cons.mp hq with rfl | hq
              · exact nod0'.same s
              · rw [List.mem_singleton.mp hq]
                exact nod0'.same s⟩
            have b57 : But p H5 (upd H6 eb (.lst [.ref q0.1, .ref q0.1])) := b6.then s7
            have f7 := f6.same s7
            refine ⟨o, eb, 80, rs, [q0.2, q0.2], rfl, Vf.OrdAt.but ord f5 b57, mkEv s7 upd_same, (by show 2 ≤ 3; decide), lrs, nod2, nd, by decide, fun q kvs xs H8 s8 hq gr8 xne xle => ?_, fun _ H8 s8 => ?_⟩
            · refine ⟨_, rfl, rfl, _, rfl, iteF ?_⟩
              have s68 := s7.trans s8
              have hQ18 := s68 _ _ hQ16
              refine ⟨_, rfl, e, _, 0, _, rfl, rfl, SqL.of hQ18, at0, _, rfl, e, _, 0, _, rfl, rfl, SqL.of hQ18, at0, (by show 2 ≤ sizeLine; decide), fun ec hec => ?_⟩
              have s9 := same_new (o := .lst [.ref q0.1, .ref q0.1]) hec
              refine ⟨_, rfl, rfl, _, rfl, iteF ⟨_, rfl, ?_⟩⟩
              exact ⟨_, ec, q, [q0.2, q0.2], kvs, xs, rfl, (b57.then s8).then s9, (f7.same s8).same s9, mkEv (s68.trans s9) upd_same, gr8.same s9, (by show 2 ≤ 3; decide), (by show 1 ≤ 2; decide), nod2, xle⟩
            · refine ⟨_, rfl, rfl, _, rfl, iteT ⟨_, rfl, _, rfl, rfl, _, rfl, iteT ⟨_, rfl, ?_⟩⟩⟩
              have s68 := s7.trans s8
              exact ⟨_, e, g, es, kvs0, xs0, rfl, b57.then s8, f7.same s8, Vf.EvAt.same ev6 s68, gr6.same s68, few0, pos0, nod0, xle0⟩
          · rw [decide_eq_false (p := V.int (r5 : Int) = V.int 0) (fun e => c0 (by have := V.int.inj e; omega))]
            exact iteF ⟨_, e, g, es, kvs0, xs0, rfl, b6, f6, ev6, gr6, few0, pos0, nod0, xle0⟩
        · rw [decide_eq_false (p := V.int ((es.length : Nat) : Int) = V.int 2) (fun e => h2 (by have := V.int.inj e; omega))]
          exact iteF (iteF ⟨_, e, g, es, kvs0, xs0, rfl, But.refl _ _, f5, ev0, gr0, few0, pos0, nod0, xle0⟩)
      clear ev0 gr0 few0 pos0 nod0 xne0 xle0
      rintro σ H6 ⟨v7, e, g, es, kvs, xs, rfl, b6, f6, ev, gr, few3, pos1, nod, xle⟩
      rw [lin] at gr nod nd
      have t26 := b6 _ _ (feed_ne4 f5 t2) t2
      have d16 := b6 _ _ (feed_neD f5 d1) d1
      have il6 := Vf.InLines.but il f5 b6
      have s36 : Same H3 H6 := (b5.trans b6).same s4 hp0
      obtain ⟨Qs, hQ1, hQ2, hQ3⟩ := id ev
      have lQ : Qs.length = es.length := by rw [← hQ2, List.length_map]
      refine ⟨_, rfl, u, _, 0, .ref d, rfl, rfl, SqL.of t26, rfl, _, rfl, u, _, 1, .int (r : Int), rfl, rfl, SqL.of t26, rfl, _, rfl, u, _, 2, .ref l, rfl, rfl, SqL.of t26, rfl, fun x dx hx hdx hne => ?_⟩
      have s0 : Same H6 (upd (upd H6 dx (.own x)) x (.ins C dx [])) := same_upd (same_new hdx) hx
      refine ⟨x, dx, d, l, cs, r, ps, rfl, upd_same, s0 _ _ d16, good, r1, r32, il6.same s0, fun H7 sd nd_ hb7 _ _ _ lay => ⟨rfl, ?_⟩⟩
      have s67 : Same H6 H7 := hb7.same s0 hx
      refine ⟨_, rfl, e, rfl, ⟨_, SqL.of (s67 _ _ hQ1)⟩, fun D hD => lc_ad Qs (walk_list (K := K) (a := e) (xs := Qs.map fun q => V.ref q.1) |> fun z => by rw [List.length_map] at z; exact z) hD (fun (q : Addr × List Nd) v H => ∃ (pp : Addr) (z : Str), v = .ref pp ∧ ProgAt CP H pp z q.2) (by omega) (fun H8 s8 => SqL.of (s8 _ _ (s67 _ _ hQ1))) ?_ ?_⟩
      · rintro j q y H8 H9 hq s8 ⟨acc, hacc⟩ ⟨rfl, hy⟩ R hR
        rw [List.getElem?_map, hq] at hy
        obtain rfl : V.ref q.1 = y := Option.some.inj hy
        have hqm := List.mem_of_getElem? hq
        have g := (nod q.2 (hQ2 ▸ List.mem_map_of_mem hqm)).1
        refine ⟨rfl, rfl, _, rfl, q.1, q.2, rfl, (hQ3 q hqm).same (s67.trans s8), g, fun H9 s9 => ⟨_, q.2, rfl, fits_good (rows_of false q.2) g, pgood (rows_of false q.2) g, fun pp H10 s10 hpp pr => ?_⟩⟩
        exact hR (.ref pp) H10 (s9.trans s10) fun H11 b11 => ⟨pp, _, rfl, ProgAt.butL pr b11 ((s9.trans s10) _ _ hacc)⟩
      intro H8 vs s8 hL8 hlen hpr
      obtain ⟨thr, rfl, ethr, hthr⟩ := thr_of (C := CP) Qs vs hlen hpr
      have ethr2 : thr.map (fun q => q.2.2) = es := by rw [ethr, hQ2]
      have lthr : thr.length = es.length := by
        have := congrArg List.length ethr2
        rwa [List.length_map] at this
      have nodes : ∀ q ∈ thr, q.2.2.length ≤ 100 ∧ ∀ n ∈ q.2.2, n.tg.length ≤ 100 ∧ lineNo (linesOf ps) n.cell < (linesOf ps).length ∧ ∃ j : Nat, valV (mergeK [] (numPr (linesOf ps))) (Sum.inr n.cell) = some (.int (j : Int)) := fun q hq => by
        have hm : q.2.2 ∈ es := ethr2 ▸ List.mem_map_of_mem (f := fun q : Addr × Str × List Nd => q.2.2) hq
        obtain ⟨g1, g2⟩ := nod q.2.2 hm
        have g8 := g1.few
        refine ⟨by omega, fun n hn => ?_⟩
        have a1 := (g1.all n hn).tg.len
        have hc := g2 n hn
        obtain ⟨j, ws, hj, hz⟩ := line_has hc
        refine ⟨by omega, ?_, j, num_val nd hj hz⟩
        rw [lineNo_at nd hj hz]
        exact (List.getElem?_eq_some_iff.mp hj).1
      have few400 : ∀ pl held, OkSt es (linesOf ps) pl held → (stepsM (linesOf ps) es pl held).length ≤ 400 := fun pl held ok => steps_few nod ok few3
      have fit8 : Fit C CP K H8 x sd nd_ D (srtCs cs) r (linesOf ps) thr := ⟨lay.same s8, ⟨SqL.of hL8, hthr⟩, by rw [ethr2]; exact nod, by omega, by omega, nodes, fun pl held ok => by
        rw [ethr2] at ok ⊢
        exact Nat.le_trans (few400 pl held ok) (by decide)⟩
      have es100 : ∀ ns ∈ es, ns.length ≤ 100 := fun ns h => by
        have := (nod ns h).1.few
        omega
      have hcl : ∃ S, ClosedF (linesOf ps) (thr.map fun q => q.2.2) (k0Of (linesOf ps) (thr.map fun q => q.2.2)) S ∧ S.length ≤ 1000 := ⟨kvs.map Prod.fst, by rw [ethr2]; exact gr.cl, by
        have := Paired.length gr.nd.rel
        rw [List.length_map]
        omega⟩
      have lkv : kvs.length ≤ 1000 := by
        have := Paired.length gr.nd.rel
        omega
      have s68 := s67.trans s8
      have gr8 := gr.same s68
      have hQ18 := s68 _ _ hQ1
      have hQ38 : ∀ q ∈ Qs, NodesAt H8 q.1 q.2 := fun q hq => (hQ3 q hq).same s68
      have tb8 : LamX.Tabs (tabE Tb) H8 := tb2.ext (s36.trans s68)
      have eH8 : LamX.ExtN H H8 := s2.trans (LamX.ExtN.of (s36.trans s68))
      clear b6 f6 ev gr t26 d16 il6 s36 hQ1 hQ3 s0 hb7 lay s67 hpr hL8 hthr s8 s68 b5 f5 ca t1 t2 d1 il ord s35
      refine ⟨Nat.zero_le _, fun du hdu => ?_⟩
      have sd9 := same_new (o := .lst []) hdu
      have edu : (upd H8 du (.lst [])) du = some (.lst []) := upd_same
      have gr9 := gr8.same sd9
      have hQ19 := sd9 _ _ hQ18
      have hedu : e ≠ du := ne_of_none hQ18 hdu
      have hQ39 : ∀ q ∈ Qs, NodesAt (upd H8 du (.lst [])) q.1 q.2 := fun q hq => (hQ38 q hq).same sd9
      generalize upd H8 du (.lst []) = H9 at sd9 edu gr9 hQ19 hQ39 ⊢
      refine ⟨_, rfl, e, _, rfl, SqL.of hQ19, for_it (walk_enum (K := K) (a := e) (xs := Qs.map fun q => V.ref q.1)) (fun y σ H' => ∃ (v11 v12 v13 v14 : Option V) (rows : List (Addr × List Str)), σ = [some (.ref a), some (.int (0 + (i : Int))), some (.ref p), some (.ref u), some (.ref o), some (.ref e), some (.ref g), v7, some (.ref x), some (.ref D), some (.ref du), v11, v12, v13, v14] ∧
          But du H9 H' ∧ TextsAt H' du rows ∧ rows.length = y ∧ rows.map Prod.snd = (kindsOf (linesOf ps) es (k0Of (linesOf ps) es)).take y ∧ ∀ r ∈ rows, r.1 ≠ du)
        ⟨_, _, _, _, [], rfl, But.refl _ _, ⟨edu, fun r hr => nomatch hr⟩, rfl, by rw [List.take_zero]; rfl, fun r hr => nomatch hr⟩ (fun y σ H' _ ⟨_, _, _, _, _, _, b, _⟩ => SqL.of (b _ _ hedu hQ19)) ?_ ?_⟩
      · rintro y z σ H10' H10 hy ⟨v11, v12, v13, v14, rows, rfl, b10, tx10, lr10, er10, ne10⟩ ⟨T1, x1, x2, rfl, hT1, rfl, hx1, hx2⟩
        rw [List.length_map] at hy
        obtain rfl : V.int (y : Nat) = x1 := Option.some.inj hx1
        obtain ⟨q, hq⟩ : ∃ q, Qs[y]? = some q := ⟨_, List.getElem?_eq_getElem hy⟩
        replace hx2 : (Qs.map fun q => V.ref q.1)[y]? = some x2 := hx2
        rw [List.getElem?_map, hq] at hx2
        obtain rfl : V.ref q.1 = x2 := Option.some.inj hx2
        have hqm := List.mem_of_getElem? hq
        have hes : es[y]? = some q.2 := by
          rw [← hQ2, List.getElem?_map, hq]
          rfl
        have sT := same_new (o := .tup [.int (y : Nat), .ref q.1]) hT1
        have eT : (upd H10' T1 (.tup [.int (y : Nat), .ref q.1])) T1 = some (.tup [.int (y : Nat), .ref q.1]) := upd_same
        have b11 := b10.then sT
        have tx11 := tx10.same sT
        generalize upd H10' T1 (.tup [.int (y : Nat), .ref q.1]) = H11 at sT eT b11 tx11 ⊢
        refine ⟨T1, _, rfl, SqT.of eT, rfl, _, _, rfl, _, _, rfl, rfl, ?_⟩
        have s811 : Same H8 H11 := b11.same sd9 hdu
        have gr11 := gr8.same s811
        obtain ⟨as, nt, hin1, hin2⟩ := (hQ38 q hqm).same s811
        have lq100 := es100 q.2 (List.mem_of_getElem? hes)
        have hyes : y < es.length := by omega
        refine ⟨_, rfl, .inl ⟨rfl, _, SqL.of tx11.at_⟩, _, rfl, q.1, _, rfl, .inr (SqT.of nt), _, rfl, by omega, by rw [List.length_map, hin1]; omega, fun D2 hD2 => ?_⟩
        rw [Int.toNat_natCast, List.length_map, hin1]
        refine lc_mp (List.range q.2.length) (walk_range (lo := 0) (n := (List.range q.2.length).length) |> fun z => by rw [List.length_range] at z ⊢; exact z) hD2 (fun n => V.str (kindOf (linesOf ps) es (k0Of (linesOf ps) es) y n)) (by rw [List.length_range]; omega) (fun _ _ => trivial) ?_ ?_
        · rintro n n2 z H12 H13 hn s12 ⟨rfl, rfl⟩ R hR
          have hn2 : n < q.2.length := by
            have := (List.getElem?_eq_some_iff.mp hn).1
            rwa [List.length_range] at this
          rw [List.getElem?_range hn2] at hn
          obtain rfl := Option.some.inj hn
          refine ⟨rfl, _, rfl, _, rfl, _, rfl, g, linesOf ps, es, kvs, xs, y, n, (by show [V.ref g, V.int (y : Nat), V.int (0 + (n : Int))] = _; rw [Int.zero_add]), gr11.same s12, hyes, lkv, few400, fun H14 s14 => hR H14 s14⟩
        · intro H12 s12 hL12
          have hDdu : D2 ≠ du := (ne_of_none tx11.at_ hD2).symm
          have tx12 := tx11.same s12
          refine ⟨du, _, _, rfl, rfl, tx12.at_, by rw [List.length_map, sizeLine_eq]; omega, ?_⟩
          refine ⟨_, _, _, _, rows ++ [(D2, (List.range q.2.length).map (kindOf (linesOf ps) es (k0Of (linesOf ps) es) y))], rfl, (b11.then s12).put, ⟨by rw [upd_same, List.map_append]; rfl, fun r hr => ?_⟩, by rw [List.length_append, lr10]; rfl, ?_, fun r hr => ?_⟩
          · rcases List.mem_append.mp hr with hr | hr
            · rw [upd_ne (ne10 r hr)]
              exact tx12.each r hr
            · rw [List.mem_singleton.mp hr, upd_ne hDdu, hL12, List.map_map]
              rfl
          · rw [List.map_append, er10, List.take_add_one, kindsOf_get hes]
            rfl
          · rcases List.mem_append.mp hr with hr | hr
            · exact ne10 r hr
            · rw [List.mem_singleton.mp hr]
              exact hDdu
      · rintro σ H12 ⟨v11, v12, v13, v14, rows, rfl, b12, tx12, lr12, er12, ne12⟩
        have s812 : Same H8 H12 := b12.same sd9 hdu
        rw [List.length_map] at lr12 er12
        rw [List.take_of_length_le (by rw [kindsOf_len]; omega)] at er12
        have fit12 := fit8.same s812
        have tb12 := tb8.ext s812
        have eH12 := eH8.trans (LamX.ExtN.of s812)
        clear b12 sd9 gr9 hQ19 hQ39 gr8 hQ18 hQ38 fit8 tb8 eH8 s812 edu hdu
        have lks := kindsOf_len (linesOf ps) es (k0Of (linesOf ps) es)
        obtain ⟨sh1, sh2, sh3⟩ := sh_texts (small_kinds (ls := linesOf ps) (k0 := k0Of (linesOf ps) es) es100) (by omega)
        refine ⟨_, rfl, _, rfl, x, sd, nd_, D, srtCs cs, r, linesOf ps, thr, rfl, fit12, tb12, hcl, fun xf H13 e13 t13 kf => ?_⟩
        rw [ethr2] at kf
        obtain ⟨rsF, txF, snF, ndF, neF, newF⟩ := kf.texts
        have tx13 := tx12.ext e13
        have lF : rsF.length = es.length := by
          have := congrArg List.length snF
          rw [List.length_map] at this
          omega
        have hrF : ReprIs K H13 (.ref xf) (textsD (kindsOf (linesOf ps) es (k0Of (linesOf ps) es))).shown := by
          have := dp_texts (K := K) txF.at_ rfl txF.each
          rw [snF] at this
          exact repr_dat this sh1 sh2 sh3
        have hrD : ReprIs K H13 (.ref du) (textsD (kindsOf (linesOf ps) es (k0Of (linesOf ps) es))).shown := by
          have := dp_texts (K := K) tx13.at_ rfl tx13.each
          rw [er12] at this
          exact repr_dat this sh1 sh2 sh3
        refine ⟨_, rfl, _, _, rfl, hrF, _, rfl, _, _, rfl, hrD, rfl, _, rfl, ?_⟩
        rw [decide_eq_true (rfl : V.str (textsD (kindsOf (linesOf ps) es (k0Of (linesOf ps) es))).shown = V.str _)]
        refine iteF ?_
        clear hrF hrD
        have smk := small_kinds (ls := linesOf ps) (k0 := k0Of (linesOf ps) es) es100
        obtain ⟨q0, rsT, rfl⟩ : ∃ q0 rsT, rsF = q0 :: rsT := by
          cases rsF with
          | nil =>
            rw [List.length_nil] at lF
            omega
          | cons q0 rsT => exact ⟨q0, rsT, rfl⟩
        obtain ⟨r0, rowsT, rfl⟩ : ∃ r0 rowsT, rows = r0 :: rowsT := by
          cases rows with
          | nil =>
            rw [List.length_nil] at lr12
            omega
          | cons r0 rowsT => exact ⟨r0, rowsT, rfl⟩
        have eT : rowsT.map Prod.snd = rsT.map Prod.snd := by
          have := er12.trans snF.symm
          rw [List.map_cons, List.map_cons] at this
          exact (List.cons.inj this).2
        have smT : ∀ r ∈ rsT.map Prod.snd, r.length ≤ 100 ∧ ∀ z ∈ r, smallZ z := fun r hr => smk r (by rw [← snF, List.map_cons]; exact List.mem_cons_of_mem _ hr)
        have smq : q0.2.length ≤ 100 := (smk q0.2 (by rw [← snF, List.map_cons]; exact List.mem_cons_self)).1
        rw [List.length_cons] at lF lr12
        obtain ⟨shT1, shT2, shT3⟩ := sh_texts smT (by rw [List.length_map]; omega)
        have h0 := txF.each q0 List.mem_cons_self
        refine ⟨_, rfl, xf, _, 0, .ref q0.1, rfl, rfl, SqL.of txF.at_, atI_nat (j := 0) (by rw [List.map_cons]; rfl), .inl ⟨rfl, _, SqL.of h0⟩, q0.1, _, _, rfl, rfl, h0, by rw [List.length_map, sizeLine_eq]; omega, ?_⟩
        have e14 : LamX.ExtN H12 (upd H13 q0.1 (.lst (q0.2.map V.str ++ [.non]))) := fun b o hb hn => by
          rw [upd_ne ((newF b o hb hn).2 q0 List.mem_cons_self)]
          exact e13 b o hb hn
        have t14 : LamX.Tabs (tabE Tb) (upd H13 q0.1 (.lst (q0.2.map V.str ++ [.non]))) := Tabs.put t13 h0
        have tF14 : (upd H13 q0.1 (.lst (q0.2.map V.str ++ [.non]))) xf = some (.lst ((q0 :: rsT).map fun r => V.ref r.1)) := by
          rw [upd_ne (neF q0 List.mem_cons_self).symm]
          exact txF.at_
        have rT14 : ∀ r ∈ rsT, (upd H13 q0.1 (.lst (q0.2.map V.str ++ [.non]))) r.1 = some (.lst (r.2.map V.str)) := fun r hr => by
          rw [List.map_cons, List.nodup_cons] at ndF
          rw [upd_ne (fun e => ndF.1 (by rw [← e]; exact List.mem_map_of_mem hr))]
          exact txF.each r (List.mem_cons_of_mem _ hr)
        generalize upd H13 q0.1 (.lst (q0.2.map V.str ++ [.non])) = H14 at e14 t14 tF14 rT14 ⊢
        clear e13 t13 kf txF h0 tx13
        have tx14 := tx12.ext e14
        refine ⟨_, rfl, 1, rfl, xf, _, rfl, SqL.of tF14, fun c hc => ⟨_, rfl, 1, rfl, du, _, rfl, SqL.of (same_new hc _ _ tx14.at_), fun c2 hc2 => ?_⟩⟩
        rw [cut1, cut1] at *
        have s15 := same_new (o := .lst (((q0 :: rsT).map fun r => V.ref r.1).drop 1)) hc
        have ec : (upd H14 c (.lst (((q0 :: rsT).map fun r => V.ref r.1).drop 1))) c = some (.lst (((q0 :: rsT).map fun r => V.ref r.1).drop 1)) := upd_same
        have s16 := same_new (o := .lst (((r0 :: rowsT).map fun r => V.ref r.1).drop 1)) hc2
        have s1416 := s15.trans s16
        refine ⟨textsD (rsT.map Prod.snd), textsD (rsT.map Prod.snd), dp_texts (rs := rsT) (s16 _ _ ec) rfl (fun r hr => s1416 _ _ (rT14 r hr)), ?_, shaped_sh shT1 shT3, shaped_sh shT1 shT3, _, rfl, ?_⟩
        · rw [← eT]
          exact dp_texts (rs := rowsT) upd_same rfl (fun r hr => s1416 _ _ (tx14.each r (List.mem_cons_of_mem _ hr)))
        rw [eqv_sh _ shT1]
        have e16 := e14.trans (LamX.ExtN.of s1416)
        have t16 := t14.ext s1416
        have tF16 := s1416 _ _ tF14
        generalize upd (upd H14 c (.lst (((q0 :: rsT).map fun r => V.ref r.1).drop 1))) c2 (.lst (((r0 :: rowsT).map fun r => V.ref r.1).drop 1)) = H16 at e16 t16 tF16 ⊢
        refine iteF ⟨_, rfl, .inl ⟨rfl, _, SqL.of tF16⟩, xf, _, rfl, rfl, tF16, ?_⟩
        have e17 : LamX.ExtN H12 (upd H16 xf (.lst [])) := fun b o hb hn => by
          rw [upd_ne (newF b o hb hn).1]
          exact e16 b o hb hn
        have t17 : LamX.Tabs (tabE Tb) (upd H16 xf (.lst [])) := Tabs.put t16 tF16
        generalize upd H16 xf (.lst []) = H17 at e17 t17 ⊢
        refine ⟨_, rfl, _, rfl, x, sd, nd_, D, srtCs cs, r, linesOf ps, thr, rfl, Fit.ext fit12 e17, t17, hcl, fun xg H18 e18 t18 kg => ?_⟩
        rw [ethr2] at kg
        obtain ⟨rsG, txG, snG, _⟩ := kg.texts
        have tx18 := tx12.ext (e17.trans e18)
        refine ⟨_, rfl, textsD (kindsOf (linesOf ps) es (k0Of (linesOf ps) es)), textsD (kindsOf (linesOf ps) es (k0Of (linesOf ps) es)), ?_, ?_, shaped_sh sh1 sh3, shaped_sh sh1 sh3, _, rfl, ?_⟩
        · rw [← snG]
          exact dp_texts txG.at_ rfl txG.each
        · rw [← er12]
          exact dp_texts tx18.at_ rfl tx18.each
        rw [eqv_sh _ sh1]
        exact iteF ⟨_, _, _, _, _, _, _, _, _, _, _, _, _, _, rfl, eH12.trans (e17.trans e18), t18⟩
    · rintro σ H2 ⟨v1, v2, v3, v4, v5, v6, v7, v8, v9, v10, v11, v12, v13, v14, rfl, s2, tb2⟩
      exact k _
end
end Vf

set_option maxRecDepth 100000
set_option maxHeartbeats 16000000
namespace Vf
open PySem PySem.Spec PyProof.Rows L2
theorem all_mk {l : PySem.W.OpenLaw} {w : World} {K : PySem.W.Frag} {h : Heap} {mg : Str → Option Value} {fa CG C CP CT pp44 aW aN bN aDX aDY : Addr} (X : K.In h) (G : h.Ns mainGlobals mg) (hfa : mg "law" = some (.ref fa))
    {f1 f2 f3 f4 f5 f6 f7 f8 f9 f10 f11 f12 f13 f14 f15 f16 f17 f18 f19 f20 f21 f22 f23 f24 f25 f26 f27 f28 f29 f30 f31 f32 f33 f34 f35 f36 f37 f38 f39 f40 f41 f42 f43 f44 : Addr} {od1 an1 od2 an2 od3 an3 od4 an4 od5 an5 od6 an6 od7 an7 od8 an8 od9 an9 od10 an10 od11 an11 od12 an12 od13 an13 od14 an14 od15 an15 od16 an16 od17 an17 od18 an18 od19 an19 od20 an20 od21 an21 od22 an22 od23 an23 od24 an24 od25 an25 od26 an26 od27 an27 od28 an28 od29 an29 od30 an30 od31 an31 od32 an32 od33 an33 od34 an34 od35 an35 od36 an36 od37 an37 od38 an38 od39 an39 od40 an40 od41 an41 od42 an42 od43 an43 od44 an44 : Option Addr} {sl1 sl2 sl3 sl4 sl5 sl6 sl7 sl8 sl9 sl10 sl11 sl12 sl13 sl14 sl15 sl16 sl17 sl18 sl19 sl20 sl21 sl22 sl23 sl24 sl25 sl26 sl27 sl28 sl29 sl30 sl31 sl32 sl33 sl34 sl35 sl36 sl37 sl38 sl39 sl40 sl41 sl42 sl43 sl44 : Array (Option Value)} {oc1 kV1 dc1 pm1 cd1 cx1 oc2 kV2 dc2 pm2 cd2 cx2 oc3 kV3 dc3 pm3 cd3 cx3 oc4 kV4 dc4 pm4 cd4 cx4 oc5 kV5 dc5 pm5 cd5 cx5 oc6 kV6 dc6 pm6 cd6 cx6 oc7 kV7 dc7 pm7 cd7 cx7 oc8 kV8 dc8 pm8 cd8 cx8 oc9 kV9 dc9 pm9 cd9 cx9 oc10 kV10 dc10 pm10 cd10 cx10 oc11 kV11 dc11 pm11 cd11 cx11 oc12 kV12 dc12 pm12 cd12 cx12 oc13 kV13 dc13 pm13 cd13 cx13 oc14 kV14 dc14 pm14 cd14 cx14 oc15 kV15 dc15 pm15 cd15 cx15 oc16 kV16 dc16 pm16 cd16 cx16 oc17 kV17 dc17 pm17 cd17 cx17 oc18 kV18 dc18 pm18 cd18 cx18 oc19 kV19 dc19 pm19 cd19 cx19 oc20 kV20 dc20 pm20 cd20 cx20 oc21 kV21 dc21 pm21 cd21 cx21 oc22 kV22 dc22 pm22 cd22 cx22 oc23 kV23 dc23 pm23 cd23 cx23 oc24 kV24 dc24 pm24 cd24 cx24 oc25 kV25 dc25 pm25 cd25 cx25 oc26 kV26 dc26 pm26 cd26 cx26 oc27 kV27 dc27 pm27 cd27 cx27 oc28 kV28 dc28 pm28 cd28 cx28 oc29 kV29 dc29 pm29 cd29 cx29 oc30 kV30 dc30 pm30 cd30 cx30 oc31 kV31 dc31 pm31 cd31 cx31 oc32 kV32 dc32 pm32 cd32 cx32 oc33 kV33 dc33 pm33 cd33 cx33 oc34 kV34 dc34 pm34 cd34 cx34 oc35 kV35 dc35 pm35 cd35 cx35 oc36 kV36 dc36 pm36 cd36 cx36 oc37 kV37 dc37 pm37 cd37 cx37 oc38 kV38 dc38 pm38 cd38 cx38 oc39 kV39 dc39 pm39 cd39 cx39 oc40 kV40 dc40 pm40 cd40 cx40 oc41 kV41 dc41 pm41 cd41 cx41 oc42 kV42 dc42 pm42 cd42 cx42 oc43 kV43 dc43 pm43 cd43 cx43 oc44 kV44 dc44 pm44 cd44 cx44 : Value} {t1 t2 t3 t4 t5 : Tok}
    {rest44 : List Value}
    {mcCP : Value}
    {xs1 : Str} {ts1 : Tok}
    {xs2 : Str} {ts2 : Tok}
    {xs3 : Str} {ts3 : Tok}
    {odw1 : Option Addr} {itsw1 : Array Value} {nw1 : Nat} {slw1 : Array (Option Value)}
    {odw2 : Option Addr} {itsw2 : Array Value} {nw2 : Nat} {slw2 : Array (Option Value)}
    {odw3 : Option Addr} {itsw3 : Array Value} {nw3 : Nat} {slw3 : Array (Option Value)}
    {odw4 : Option Addr} {itsw4 : Array Value} {nw4 : Nat} {slw4 : Array (Option Value)}
    {odw5 : Option Addr} {itsw5 : Array Value} {nw5 : Nat} {slw5 : Array (Option Value)}
    {cT Tb : Addr} {oT : Value} {odT : Option Addr} {vsT : Array Value} {slT : Array (Option Value)}
    (aCG : PySem.W.nsIn K mainGlobals "Graph" = some (some (.ref CG))) (aC : PySem.W.nsIn K mainGlobals "Layout" = some (some (.ref C))) (aCP : PySem.W.nsIn K mainGlobals "Program" = some (some (.ref CP))) (a1 : PySem.W.nsIn K mainGlobals "is_integer" = some (some (.ref f1)))
    (l1 : K.lookup f1 = some ⟨oc1, od1, .func (PySem.W.fnOf "is_integer" "is_integer" (defArgs s_is_integer) (defBody s_is_integer) (defScope s_is_integer) .none kV1 dc1 pm1 an1 cd1 cx1), sl1⟩) (c1 : PySem.W.codeIn K cd1 "is_integer" = true) (k1 : PySem.W.keepIn K (.ref f1) = true) (a2 : PySem.W.nsIn K mainGlobals "is_integer_within" = some (some (.ref f2)))
    (l2 : K.lookup f2 = some ⟨oc2, od2, .func (PySem.W.fnOf "is_integer_within" "is_integer_within" (defArgs s_is_integer_within) (defBody s_is_integer_within) (defScope s_is_integer_within) .none kV2 dc2 pm2 an2 cd2 cx2), sl2⟩) (c2 : PySem.W.codeIn K cd2 "is_integer_within" = true) (k2 : PySem.W.keepIn K (.ref f2) = true) (a3 : PySem.W.nsIn K mainGlobals "is_name" = some (some (.ref f3)))
    (l3 : K.lookup f3 = some ⟨oc3, od3, .func (PySem.W.fnOf "is_name" "is_name" (defArgs s_is_name) (defBody s_is_name) (defScope s_is_name) .none kV3 dc3 pm3 an3 cd3 cx3), sl3⟩) (c3 : PySem.W.codeIn K cd3 "is_name" = true) (k3 : PySem.W.keepIn K (.ref f3) = true) (a4 : PySem.W.nsIn K mainGlobals "explore" = some (some (.ref f4)))
    (l4 : K.lookup f4 = some ⟨oc4, od4, .func (PySem.W.fnOf "explore" "explore" (defArgs s_explore) (defBody s_explore) (defScope s_explore) .none kV4 dc4 pm4 an4 cd4 cx4), sl4⟩) (c4 : PySem.W.codeIn K cd4 "explore" = true) (k4 : PySem.W.keepIn K (.ref f4) = true) (a5 : PySem.W.nsIn K mainGlobals "placed" = some (some (.ref f5)))
    (l5 : K.lookup f5 = some ⟨oc5, od5, .func (PySem.W.fnOf "placed" "placed" (defArgs s_placed) (defBody s_placed) (defScope s_placed) .none kV5 dc5 pm5 an5 cd5 cx5), sl5⟩) (c5 : PySem.W.codeIn K cd5 "placed" = true) (k5 : PySem.W.keepIn K (.ref f5) = true) (a6 : PySem.W.nsIn K mainGlobals "places_at_start" = some (some (.ref f6)))
    (l6 : K.lookup f6 = some ⟨oc6, od6, .func (PySem.W.fnOf "places_at_start" "places_at_start" (defArgs s_places_at_start) (defBody s_places_at_start) (defScope s_places_at_start) .none kV6 dc6 pm6 an6 cd6 cx6), sl6⟩) (c6 : PySem.W.codeIn K cd6 "places_at_start" = true) (k6 : PySem.W.keepIn K (.ref f6) = true) (a7 : PySem.W.nsIn K mainGlobals "lines_at_start" = some (some (.ref f7)))
    (l7 : K.lookup f7 = some ⟨oc7, od7, .func (PySem.W.fnOf "lines_at_start" "lines_at_start" (defArgs s_lines_at_start) (defBody s_lines_at_start) (defScope s_lines_at_start) .none kV7 dc7 pm7 an7 cd7 cx7), sl7⟩) (c7 : PySem.W.codeIn K cd7 "lines_at_start" = true) (k7 : PySem.W.keepIn K (.ref f7) = true) (a8 : PySem.W.nsIn K mainGlobals "steps_ahead" = some (some (.ref f8)))
    (l8 : K.lookup f8 = some ⟨oc8, od8, .func (PySem.W.fnOf "steps_ahead" "steps_ahead" (defArgs s_steps_ahead) (defBody s_steps_ahead) (defScope s_steps_ahead) .none kV8 dc8 pm8 an8 cd8 cx8), sl8⟩) (c8 : PySem.W.codeIn K cd8 "steps_ahead" = true) (k8 : PySem.W.keepIn K (.ref f8) = true) (a9 : PySem.W.nsIn K mainGlobals "_touched" = some (some (.ref f9)))
    (l9 : K.lookup f9 = some ⟨oc9, od9, .func (PySem.W.fnOf "_touched" "_touched" (defArgs s_touched) (defBody s_touched) (defScope s_touched) .none kV9 dc9 pm9 an9 cd9 cx9), sl9⟩) (c9 : PySem.W.codeIn K cd9 "_touched" = true) (k9 : PySem.W.keepIn K (.ref f9) = true) (a10 : PySem.W.nsIn K mainGlobals "_exchanged" = some (some (.ref f10)))
    (l10 : K.lookup f10 = some ⟨oc10, od10, .func (PySem.W.fnOf "_exchanged" "_exchanged" (defArgs s_exchanged) (defBody s_exchanged) (defScope s_exchanged) .none kV10 dc10 pm10 an10 cd10 cx10), sl10⟩) (c10 : PySem.W.codeIn K cd10 "_exchanged" = true) (k10 : PySem.W.keepIn K (.ref f10) = true) (a11 : PySem.W.nsIn K mainGlobals "start" = some (some (.ref f11)))
    (l11 : K.lookup f11 = some ⟨oc11, od11, .func (PySem.W.fnOf "start" "start" (defArgs s_start) (defBody s_start) (defScope s_start) .none kV11 dc11 pm11 an11 cd11 cx11), sl11⟩) (c11 : PySem.W.codeIn K cd11 "start" = true) (k11 : PySem.W.keepIn K (.ref f11) = true) (a12 : PySem.W.nsIn K mainGlobals "node_kinds" = some (some (.ref f12)))
    (l12 : K.lookup f12 = some ⟨oc12, od12, .func (PySem.W.fnOf "node_kinds" "node_kinds" (defArgs s_node_kinds) (defBody s_node_kinds) (defScope s_node_kinds) .none kV12 dc12 pm12 an12 cd12 cx12), sl12⟩) (c12 : PySem.W.codeIn K cd12 "node_kinds" = true) (k12 : PySem.W.keepIn K (.ref f12) = true) (a13 : PySem.W.nsIn K mainGlobals "explored" = some (some (.ref f13)))
    (l13 : K.lookup f13 = some ⟨oc13, od13, .func (PySem.W.fnOf "explored" "explored" (defArgs s_explored) (defBody s_explored) (defScope s_explored) (.ref aDX) kV13 dc13 pm13 an13 cd13 cx13), sl13⟩) (c13 : PySem.W.codeIn K cd13 "explored" = true) (k13 : PySem.W.keepIn K (.ref f13) = true) (a14 : PySem.W.nsIn K mainGlobals "explored_from" = some (some (.ref f14)))
    (l14 : K.lookup f14 = some ⟨oc14, od14, .func (PySem.W.fnOf "explored_from" "explored_from" (defArgs s_explored_from) (defBody s_explored_from) (defScope s_explored_from) (.ref aDY) kV14 dc14 pm14 an14 cd14 cx14), sl14⟩) (c14 : PySem.W.codeIn K cd14 "explored_from" = true) (k14 : PySem.W.keepIn K (.ref f14) = true) (a15 : PySem.W.nsIn K mainGlobals "_kind" = some (some (.ref f15)))
    (l15 : K.lookup f15 = some ⟨oc15, od15, .func (PySem.W.fnOf "_kind" "_kind" (defArgs s_kind) (defBody s_kind) (defScope s_kind) .none kV15 dc15 pm15 an15 cd15 cx15), sl15⟩) (c15 : PySem.W.codeIn K cd15 "_kind" = true) (k15 : PySem.W.keepIn K (.ref f15) = true) (a16 : PySem.W.nsIn K mainGlobals "_check_cells" = some (some (.ref f16)))
    (l16 : K.lookup f16 = some ⟨oc16, od16, .func (PySem.W.fnOf "_check_cells" "_check_cells" (defArgs s_check_cells) (defBody s_check_cells) (defScope s_check_cells) .none kV16 dc16 pm16 an16 cd16 cx16), sl16⟩) (c16 : PySem.W.codeIn K cd16 "_check_cells" = true) (k16 : PySem.W.keepIn K (.ref f16) = true) (a17 : PySem.W.nsIn K mainGlobals "_check_room" = some (some (.ref f17)))
    (l17 : K.lookup f17 = some ⟨oc17, od17, .func (PySem.W.fnOf "_check_room" "_check_room" (defArgs s_check_room) (defBody s_check_room) (defScope s_check_room) .none kV17 dc17 pm17 an17 cd17 cx17), sl17⟩) (c17 : PySem.W.codeIn K cd17 "_check_room" = true) (k17 : PySem.W.keepIn K (.ref f17) = true) (a18 : PySem.W.nsIn K mainGlobals "_are_lines" = some (some (.ref f18)))
    (l18 : K.lookup f18 = some ⟨oc18, od18, .func (PySem.W.fnOf "_are_lines" "_are_lines" (defArgs s_are_lines) (defBody s_are_lines) (defScope s_are_lines) .none kV18 dc18 pm18 an18 cd18 cx18), sl18⟩) (c18 : PySem.W.codeIn K cd18 "_are_lines" = true) (k18 : PySem.W.keepIn K (.ref f18) = true) (a19 : PySem.W.nsIn K mainGlobals "_is_line" = some (some (.ref f19)))
    (l19 : K.lookup f19 = some ⟨oc19, od19, .func (PySem.W.fnOf "_is_line" "_is_line" (defArgs s_is_line) (defBody s_is_line) (defScope s_is_line) .none kV19 dc19 pm19 an19 cd19 cx19), sl19⟩) (c19 : PySem.W.codeIn K cd19 "_is_line" = true) (k19 : PySem.W.keepIn K (.ref f19) = true) (a20 : PySem.W.nsIn K mainGlobals "_filled" = some (some (.ref f20)))
    (l20 : K.lookup f20 = some ⟨oc20, od20, .func (PySem.W.fnOf "_filled" "_filled" (defArgs s_filled) (defBody s_filled) (defScope s_filled) .none kV20 dc20 pm20 an20 cd20 cx20), sl20⟩) (c20 : PySem.W.codeIn K cd20 "_filled" = true) (k20 : PySem.W.keepIn K (.ref f20) = true) (a21 : PySem.W.nsIn K mainGlobals "_nodes_of" = some (some (.ref f21)))
    (l21 : K.lookup f21 = some ⟨oc21, od21, .func (PySem.W.fnOf "_nodes_of" "_nodes_of" (defArgs s_nodes_of) (defBody s_nodes_of) (defScope s_nodes_of) .none kV21 dc21 pm21 an21 cd21 cx21), sl21⟩) (c21 : PySem.W.codeIn K cd21 "_nodes_of" = true) (k21 : PySem.W.keepIn K (.ref f21) = true) (a22 : PySem.W.nsIn K mainGlobals "_node_of" = some (some (.ref f22)))
    (l22 : K.lookup f22 = some ⟨oc22, od22, .func (PySem.W.fnOf "_node_of" "_node_of" (defArgs s_node_of) (defBody s_node_of) (defScope s_node_of) .none kV22 dc22 pm22 an22 cd22 cx22), sl22⟩) (c22 : PySem.W.codeIn K cd22 "_node_of" = true) (k22 : PySem.W.keepIn K (.ref f22) = true) (a23 : PySem.W.nsIn K mainGlobals "_targets_of" = some (some (.ref f23)))
    (l23 : K.lookup f23 = some ⟨oc23, od23, .func (PySem.W.fnOf "_targets_of" "_targets_of" (defArgs s_targets_of) (defBody s_targets_of) (defScope s_targets_of) .none kV23 dc23 pm23 an23 cd23 cx23), sl23⟩) (c23 : PySem.W.codeIn K cd23 "_targets_of" = true) (k23 : PySem.W.keepIn K (.ref f23) = true) (a24 : PySem.W.nsIn K mainGlobals "_law_feed" = some (some (.ref f24)))
    (l24 : K.lookup f24 = some ⟨oc24, od24, .func (PySem.W.fnOf "_law_feed" "_law_feed" (defArgs s_law_feed) (defBody s_law_feed) (defScope s_law_feed) .none kV24 dc24 pm24 an24 cd24 cx24), sl24⟩) (c24 : PySem.W.codeIn K cd24 "_law_feed" = true) (k24 : PySem.W.keepIn K (.ref f24) = true) (a25 : PySem.W.nsIn K mainGlobals "_law_take" = some (some (.ref f25)))
    (l25 : K.lookup f25 = some ⟨oc25, od25, .func (PySem.W.fnOf "_law_take" "_law_take" (defArgs s_law_take) (defBody s_law_take) (defScope s_law_take) .none kV25 dc25 pm25 an25 cd25 cx25), sl25⟩) (c25 : PySem.W.codeIn K cd25 "_law_take" = true) (k25 : PySem.W.keepIn K (.ref f25) = true) (a26 : PySem.W.nsIn K mainGlobals "_law_pick" = some (some (.ref f26)))
    (l26 : K.lookup f26 = some ⟨oc26, od26, .func (PySem.W.fnOf "_law_pick" "_law_pick" (defArgs s_law_pick) (defBody s_law_pick) (defScope s_law_pick) .none kV26 dc26 pm26 an26 cd26 cx26), sl26⟩) (c26 : PySem.W.codeIn K cd26 "_law_pick" = true) (k26 : PySem.W.keepIn K (.ref f26) = true) (a27 : PySem.W.nsIn K mainGlobals "_law_cells" = some (some (.ref f27)))
    (l27 : K.lookup f27 = some ⟨oc27, od27, .func (PySem.W.fnOf "_law_cells" "_law_cells" (defArgs s_law_cells) (defBody s_law_cells) (defScope s_law_cells) .none kV27 dc27 pm27 an27 cd27 cx27), sl27⟩) (c27 : PySem.W.codeIn K cd27 "_law_cells" = true) (k27 : PySem.W.keepIn K (.ref f27) = true) (a28 : PySem.W.nsIn K mainGlobals "_law_lines" = some (some (.ref f28)))
    (l28 : K.lookup f28 = some ⟨oc28, od28, .func (PySem.W.fnOf "_law_lines" "_law_lines" (defArgs s_law_lines) (defBody s_law_lines) (defScope s_law_lines) .none kV28 dc28 pm28 an28 cd28 cx28), sl28⟩) (c28 : PySem.W.codeIn K cd28 "_law_lines" = true) (k28 : PySem.W.keepIn K (.ref f28) = true) (a29 : PySem.W.nsIn K mainGlobals "_law_layout" = some (some (.ref f29)))
    (l29 : K.lookup f29 = some ⟨oc29, od29, .func (PySem.W.fnOf "_law_layout" "_law_layout" (defArgs s_law_layout) (defBody s_law_layout) (defScope s_law_layout) .none kV29 dc29 pm29 an29 cd29 cx29), sl29⟩) (c29 : PySem.W.codeIn K cd29 "_law_layout" = true) (k29 : PySem.W.keepIn K (.ref f29) = true) (a30 : PySem.W.nsIn K mainGlobals "_law_order" = some (some (.ref f30)))
    (l30 : K.lookup f30 = some ⟨oc30, od30, .func (PySem.W.fnOf "_law_order" "_law_order" (defArgs s_law_order) (defBody s_law_order) (defScope s_law_order) .none kV30 dc30 pm30 an30 cd30 cx30), sl30⟩) (c30 : PySem.W.codeIn K cd30 "_law_order" = true) (k30 : PySem.W.keepIn K (.ref f30) = true) (a31 : PySem.W.nsIn K mainGlobals "_law_nodes" = some (some (.ref f31)))
    (l31 : K.lookup f31 = some ⟨oc31, od31, .func (PySem.W.fnOf "_law_nodes" "_law_nodes" (defArgs s_law_nodes) (defBody s_law_nodes) (defScope s_law_nodes) .none kV31 dc31 pm31 an31 cd31 cx31), sl31⟩) (c31 : PySem.W.codeIn K cd31 "_law_nodes" = true) (k31 : PySem.W.keepIn K (.ref f31) = true) (a32 : PySem.W.nsIn K mainGlobals "_law_straight" = some (some (.ref f32)))
    (l32 : K.lookup f32 = some ⟨oc32, od32, .func (PySem.W.fnOf "_law_straight" "_law_straight" (defArgs s_law_straight) (defBody s_law_straight) (defScope s_law_straight) .none kV32 dc32 pm32 an32 cd32 cx32), sl32⟩) (c32 : PySem.W.codeIn K cd32 "_law_straight" = true) (k32 : PySem.W.keepIn K (.ref f32) = true) (a33 : PySem.W.nsIn K mainGlobals "_law_text" = some (some (.ref f33)))
    (l33 : K.lookup f33 = some ⟨oc33, od33, .func (PySem.W.fnOf "_law_text" "_law_text" (defArgs s_law_text) (defBody s_law_text) (defScope s_law_text) .none kV33 dc33 pm33 an33 cd33 cx33), sl33⟩) (c33 : PySem.W.codeIn K cd33 "_law_text" = true) (k33 : PySem.W.keepIn K (.ref f33) = true) (a34 : PySem.W.nsIn K mainGlobals "_law_start" = some (some (.ref f34)))
    (l34 : K.lookup f34 = some ⟨oc34, od34, .func (PySem.W.fnOf "_law_start" "_law_start" (defArgs s_law_start) (defBody s_law_start) (defScope s_law_start) .none kV34 dc34 pm34 an34 cd34 cx34), sl34⟩) (c34 : PySem.W.codeIn K cd34 "_law_start" = true) (k34 : PySem.W.keepIn K (.ref f34) = true) (a35 : PySem.W.nsIn K mainGlobals "_law_steps" = some (some (.ref f35)))
    (l35 : K.lookup f35 = some ⟨oc35, od35, .func (PySem.W.fnOf "_law_steps" "_law_steps" (defArgs s_law_steps) (defBody s_law_steps) (defScope s_law_steps) .none kV35 dc35 pm35 an35 cd35 cx35), sl35⟩) (c35 : PySem.W.codeIn K cd35 "_law_steps" = true) (k35 : PySem.W.keepIn K (.ref f35) = true) (a36 : PySem.W.nsIn K mainGlobals "_law_graph" = some (some (.ref f36)))
    (l36 : K.lookup f36 = some ⟨oc36, od36, .func (PySem.W.fnOf "_law_graph" "_law_graph" (defArgs s_law_graph) (defBody s_law_graph) (defScope s_law_graph) .none kV36 dc36 pm36 an36 cd36 cx36), sl36⟩) (c36 : PySem.W.codeIn K cd36 "_law_graph" = true) (k36 : PySem.W.keepIn K (.ref f36) = true) (a37 : PySem.W.nsIn K mainGlobals "_law_case" = some (some (.ref f37)))
    (l37 : K.lookup f37 = some ⟨oc37, od37, .func (PySem.W.fnOf "_law_case" "_law_case" (defArgs s_law_case) (defBody s_law_case) (defScope s_law_case) .none kV37 dc37 pm37 an37 cd37 cx37), sl37⟩) (c37 : PySem.W.codeIn K cd37 "_law_case" = true) (k37 : PySem.W.keepIn K (.ref f37) = true) (a38 : PySem.W.nsIn K mainGlobals "_law_kind" = some (some (.ref f38)))
    (l38 : K.lookup f38 = some ⟨oc38, od38, .func (PySem.W.fnOf "_law_kind" "_law_kind" (defArgs s_law_kind) (defBody s_law_kind) (defScope s_law_kind) .none kV38 dc38 pm38 an38 cd38 cx38), sl38⟩) (c38 : PySem.W.codeIn K cd38 "_law_kind" = true) (k38 : PySem.W.keepIn K (.ref f38) = true) (a39 : PySem.W.nsIn K mainGlobals "law" = some (some (.ref f39)))
    (l39 : K.lookup f39 = some ⟨oc39, od39, .func (PySem.W.fnOf "law" "law" (defArgs s_law) (defBody s_law) (defScope s_law) .none kV39 dc39 pm39 an39 cd39 cx39), sl39⟩) (c39 : PySem.W.codeIn K cd39 "law" = true) (k39 : PySem.W.keepIn K (.ref f39) = true) (a40 : PySem.W.findIn K (.ref CG) "__init__" = some (some (.ref f40)))
    (i40 : PySem.W.isFn K (.ref f40) = true) (l40 : K.lookup f40 = some ⟨oc40, od40, .func (PySem.W.fnOf "__init__" "Graph.__init__" (defArgs s_Graph_init) (defBody s_Graph_init) (defScope s_Graph_init) .none kV40 dc40 pm40 an40 cd40 cx40), sl40⟩) (c40 : PySem.W.codeIn K cd40 "Graph.__init__" = true) (k40 : PySem.W.keepIn K (.ref f40) = true)
    (a41 : PySem.W.findIn K (.ref C) "__init__" = some (some (.ref f41))) (i41 : PySem.W.isFn K (.ref f41) = true) (l41 : K.lookup f41 = some ⟨oc41, od41, .func (PySem.W.fnOf "__init__" "Layout.__init__" (defArgs s_Layout_init) (defBody s_Layout_init) (defScope s_Layout_init) .none kV41 dc41 pm41 an41 cd41 cx41), sl41⟩) (c41 : PySem.W.codeIn K cd41 "Layout.__init__" = true)
    (k41 : PySem.W.keepIn K (.ref f41) = true) (a42 : PySem.W.findIn K (.ref C) "line_of" = some (some (.ref f42))) (i42 : PySem.W.isFn K (.ref f42) = true) (l42 : K.lookup f42 = some ⟨oc42, od42, .func (PySem.W.fnOf "line_of" "Layout.line_of" (defArgs s_Layout_line_of) (defBody s_Layout_line_of) (defScope s_Layout_line_of) .none kV42 dc42 pm42 an42 cd42 cx42), sl42⟩)
    (c42 : PySem.W.codeIn K cd42 "Layout.line_of" = true) (k42 : PySem.W.keepIn K (.ref f42) = true) (a43 : PySem.W.findIn K (.ref CP) "__init__" = some (some (.ref f43))) (i43 : PySem.W.isFn K (.ref f43) = true)
    (l43 : K.lookup f43 = some ⟨oc43, od43, .func (PySem.W.fnOf "__init__" "Program.__init__" (defArgs s_Program_init) (defBody s_Program_init) (defScope s_Program_init) .none kV43 dc43 pm43 an43 cd43 cx43), sl43⟩) (c43 : PySem.W.codeIn K cd43 "Program.__init__" = true) (k43 : PySem.W.keepIn K (.ref f43) = true) (tcCP : PySem.W.typeIn K (.ref CP) = some mcCP)
    (rdCP : PySem.W.readsIn K CP mcCP = true) (gaCP : PySem.W.specialIn K (.ref CP) "__getattribute__" = some (some (.builtin "type.__getattribute__"))) (fc44 : PySem.W.findCls K (.ref CP) mcCP "parse" = some (.get (.builtin "staticmethod.__get__") (.ref pp44) .none (.ref CP))) (a44 : PySem.W.recIn K pp44 "staticmethod" = some (.ref f44 :: rest44))
    (l44 : K.lookup f44 = some ⟨oc44, od44, .func (PySem.W.fnOf "parse" "Program.parse" (defArgs s_Program_parse) (defBody s_Program_parse) (defScope s_Program_parse) .none kV44 dc44 pm44 an44 cd44 cx44), sl44⟩) (c44 : PySem.W.codeIn K cd44 "Program.parse" = true) (k44 : PySem.W.keepIn K (.ref f44) = true) (pgCG : PySem.W.plainGet K CG Str.empty = true)
    (hdCG : PySem.W.hasDictIn K CG = true) (poCG : PySem.W.plainOver K CG = true) (saCG : PySem.W.findIn K (.ref CG) "__setattr__" = some (some (.builtin "object.__setattr__"))) (mkCG : PySem.W.makesIn K CG = true)
    (kcCG : PySem.W.keepIn K (.ref CG) = true) (nCG0 : PySem.W.findIn K (.ref CG) "states" = some none) (nCG1 : PySem.W.findIn K (.ref CG) "steps" = some none) (pgC : PySem.W.plainGet K C Str.empty = true)
    (hdC : PySem.W.hasDictIn K C = true) (poC : PySem.W.plainOver K C = true) (saC : PySem.W.findIn K (.ref C) "__setattr__" = some (some (.builtin "object.__setattr__"))) (mkC : PySem.W.makesIn K C = true)
    (kcC : PySem.W.keepIn K (.ref C) = true) (nC0 : PySem.W.findIn K (.ref C) "_sizes" = some none) (nC1 : PySem.W.findIn K (.ref C) "room" = some none) (nC2 : PySem.W.findIn K (.ref C) "lines" = some none)
    (nC3 : PySem.W.findIn K (.ref C) "_numbers" = some none) (pgCP : PySem.W.plainGet K CP Str.empty = true) (hdCP : PySem.W.hasDictIn K CP = true) (poCP : PySem.W.plainOver K CP = true)
    (saCP : PySem.W.findIn K (.ref CP) "__setattr__" = some (some (.builtin "object.__setattr__"))) (mkCP : PySem.W.makesIn K CP = true) (kcCP : PySem.W.keepIn K (.ref CP) = true) (nCP0 : PySem.W.findIn K (.ref CP) "nodes" = some none)
    (nCP1 : PySem.W.findIn K (.ref CP) "_text" = some none) (xAT : PySem.W.nsIn K mainGlobals "TooManyStates" = some (some (.ref CT))) (xET : PySem.W.excIn K CT [.type "ValueError", .type "Exception", .type "BaseException", .type "object"] "ValueError.__new__" = true) (xKT : PySem.W.keepIn K (.ref CT) = true)
    (xBT : PySem.W.subIn K (.ref CT) (.type "BaseException") = some true) (xTT : PySem.W.typeIn K (.ref CT) = some (.type "type")) (xCT : PySem.W.isClsIn K CT = true) (xST : PySem.W.subIn K (.ref CT) (.ref CT) = some true)
    (tC : cd14 = .ref cT) (tL : K.lookup cT = some ⟨oT, odT, .fields vsT, slT⟩) (tV : vsT[11]? = some (.ref Tb)) (tH : PySem.W.codeHdIn K cT Tb = true)
    (tN : K.lookup Tb = none) (tM : h.get? Tb = some { cls := .none, data := .fields #[] }) (ct1 : PySem.W.nsIn K mainGlobals "LONGEST_NAME" = some (some (.int 8 t1))) (ct2 : PySem.W.nsIn K mainGlobals "MOST_CELLS" = some (some (.int 6 t2)))
    (ct3 : PySem.W.nsIn K mainGlobals "LARGEST_SIZE" = some (some (.int 8 t3))) (ct4 : PySem.W.nsIn K mainGlobals "LARGEST_ROOM" = some (some (.int 32 t4))) (ct5 : PySem.W.nsIn K mainGlobals "MOST_NODES" = some (some (.int 8 t5))) (cs1 : PySem.W.nsIn K mainGlobals "ARROW" = some (some (.str xs1 ts1)))
    (hs1 : xs1 = sArrow) (cs2 : PySem.W.nsIn K mainGlobals "END" = some (some (.str xs2 ts2))) (hs2 : xs2 = sEnd) (cs3 : PySem.W.nsIn K mainGlobals "WRITE" = some (some (.str xs3 ts3)))
    (hs3 : xs3 = sWrite) (cw1 : PySem.W.nsIn K mainGlobals "WORDS" = some (some (.ref aW))) (lw1 : K.lookup aW = some ⟨.type "tuple", odw1, .seq itsw1 nw1, slw1⟩) (vw1 : Vals [V.str sRead, V.str sWrite] itsw1.toList)
    (cw2 : PySem.W.nsIn K mainGlobals "NOT_HELD" = some (some (.ref aN))) (lw2 : K.lookup aN = some ⟨.type "tuple", odw2, .seq itsw2 nw2, slw2⟩) (vw2 : Vals [V.ref bN, V.bl false] itsw2.toList) (lw3 : K.lookup bN = some ⟨.type "tuple", odw3, .seq itsw3 nw3, slw3⟩)
    (vw3 : Vals [] itsw3.toList) (lw4 : K.lookup aDX = some ⟨.type "tuple", odw4, .seq itsw4 nw4, slw4⟩) (vw4 : Vals [V.int 1000] itsw4.toList) (lw5 : K.lookup aDY = some ⟨.type "tuple", odw5, .seq itsw5 nw5, slw5⟩)
    (vw5 : Vals [V.int 1000] itsw5.toList) (z1 : PySem.W.nsIn K mainGlobals "len" = some none) (z2 : PySem.W.nsIn K mainGlobals "isinstance" = some none) (z3 : PySem.W.nsIn K mainGlobals "all" = some none)
    (z4 : PySem.W.nsIn K mainGlobals "str" = some none) (z5 : PySem.W.nsIn K mainGlobals "int" = some none) (z6 : PySem.W.nsIn K mainGlobals "bool" = some none) (z7 : PySem.W.nsIn K mainGlobals "dict" = some none)
    (z8 : PySem.W.nsIn K mainGlobals "list" = some none) (z9 : PySem.W.nsIn K mainGlobals "sum" = some none) (z10 : PySem.W.nsIn K mainGlobals "sorted" = some none) (z11 : PySem.W.nsIn K mainGlobals "tuple" = some none)
    (z12 : PySem.W.nsIn K mainGlobals "enumerate" = some none) (z13 : PySem.W.nsIn K mainGlobals "max" = some none) (z14 : PySem.W.nsIn K mainGlobals "range" = some none) (z15 : PySem.W.nsIn K mainGlobals "set" = some none)
    (z16 : PySem.W.nsIn K mainGlobals "abs" = some none) (z17 : PySem.W.nsIn K mainGlobals "zip" = some none) (z18 : PySem.W.nsIn K mainGlobals "repr" = some none) (z19 : PySem.W.nsIn K mainGlobals "min" = some none) :
    ∃ (fd : FuncData) (c T : Addr), (∀ (s : Shared) (v : Value), BindsTo s fd ⟨[v], []⟩ [("script", v)]) ∧ h.get? T = some { cls := .none, data := .fields #[] } ∧ K.lookup T = none ∧ PySem.W.CodeHd h c T ∧ ∀ base : Heap, K.In base → base.Ns mainGlobals mg → LamX.TabB base mg c T → FnG l.prog w K mg base CX0 9 fa fd ["script"] (sp_law K T) := by
  have e := hfa.symm.trans (PySem.W.mg_of X G a39)
  cases e
  subst tC
  subst hs1 hs2 hs3
  have hw1 : itsw1.size ≤ sizeLine := by
    have h2 := vw1.length
    have e : itsw1.toList.length = itsw1.size := Array.length_toList
    rw [← e, ← h2, sizeLine_eq]
    show 2 ≤ 16777216
    decide
  have hw2 : itsw2.size ≤ sizeLine := by
    have h2 := vw2.length
    have e : itsw2.toList.length = itsw2.size := Array.length_toList
    rw [← e, ← h2, sizeLine_eq]
    show 2 ≤ 16777216
    decide
  have hw3 : itsw3.size ≤ sizeLine := by
    have h2 := vw3.length
    have e : itsw3.toList.length = itsw3.size := Array.length_toList
    rw [← e, ← h2, sizeLine_eq]
    show 0 ≤ 16777216
    decide
  have hw4 : itsw4.size ≤ sizeLine := by
    have h2 := vw4.length
    have e : itsw4.toList.length = itsw4.size := Array.length_toList
    rw [← e, ← h2, sizeLine_eq]
    show 1 ≤ 16777216
    decide
  have hw5 : itsw5.size ≤ sizeLine := by
    have h2 := vw5.length
    have e : itsw5.toList.length = itsw5.size := Array.length_toList
    rw [← e, ← h2, sizeLine_eq]
    show 1 ≤ 16777216
    decide
  have EPT : ErrP K mg "TooManyStates" CT := ⟨xET, PySem.W.mg_of X G xAT, xKT, xBT, xTT, exm_is xBT xCT xTT xST⟩
  have F1 := fun_mk (st := s_is_integer) l1 c1 k1
  have b1 := F1.binds (ps := p_is_integer) fun _ _ _ _ _ _ us hl => match us, hl with | [_], _ => rfl
  have F2 := fun_mk (st := s_is_integer_within) l2 c2 k2
  have b2 := F2.binds (ps := p_is_integer_within) fun _ _ _ _ _ _ us hl => match us, hl with | [_, _, _], _ => rfl
  have F3 := fun_mk (st := s_is_name) l3 c3 k3
  have b3 := F3.binds (ps := p_is_name) fun _ _ _ _ _ _ us hl => match us, hl with | [_], _ => rfl
  have F4 := fun_mk (st := s_explore) l4 c4 k4
  have b4 := F4.binds (ps := p_explore) fun _ _ _ _ _ _ us hl => match us, hl with | [_, _, _], _ => rfl
  have F5 := fun_mk (st := s_placed) l5 c5 k5
  have b5 := F5.binds (ps := p_placed) fun _ _ _ _ _ _ us hl => match us, hl with | [_, _], _ => rfl
  have F6 := fun_mk (st := s_places_at_start) l6 c6 k6
  have b6 := F6.binds (ps := p_places_at_start) fun _ _ _ _ _ _ us hl => match us, hl with | [_], _ => rfl
  have F7 := fun_mk (st := s_lines_at_start) l7 c7 k7
  have b7 := F7.binds (ps := p_lines_at_start) fun _ _ _ _ _ _ us hl => match us, hl with | [_], _ => rfl
  have F8 := fun_mk (st := s_steps_ahead) l8 c8 k8
  have b8 := F8.binds (ps := p_steps_ahead) fun _ _ _ _ _ _ us hl => match us, hl with | [_, _], _ => rfl
  have F9 := fun_mk (st := s_touched) l9 c9 k9
  have b9 := F9.binds (ps := p_touched) fun _ _ _ _ _ _ us hl => match us, hl with | [_, _, _], _ => rfl
  have F10 := fun_mk (st := s_exchanged) l10 c10 k10
  have b10 := F10.binds (ps := p_exchanged) fun _ _ _ _ _ _ us hl => match us, hl with | [_, _, _], _ => rfl
  have F11 := fun_mk (st := s_start) l11 c11 k11
  have b11 := F11.binds (ps := p_start) fun _ _ _ _ _ _ us hl => match us, hl with | [_, _], _ => rfl
  have F12 := fun_mk (st := s_node_kinds) l12 c12 k12
  have b12 := F12.binds (ps := p_node_kinds) fun _ _ _ _ _ _ us hl => match us, hl with | [_, _], _ => rfl
  have F13 : L2.FunD K "explored" "explored" (defArgs s_explored) (defBody s_explored) (defScope s_explored) [.int 1000] [] f13 _ := ⟨⟨_, _, _, _, _, _, _, _, _, _, rfl, l13, c13, .inr ⟨by simp, aDX, _, itsw4.toList, nw4, rfl, lw4, by rw [Array.toArray_toList], vw4⟩, .inl rfl⟩, k13⟩
  have F14 : L2.FunD K "explored_from" "explored_from" (defArgs s_explored_from) (defBody s_explored_from) (defScope s_explored_from) [.int 1000] [] f14 _ := ⟨⟨_, _, _, _, _, _, _, _, _, _, rfl, l14, c14, .inr ⟨by simp, aDY, _, itsw5.toList, nw5, rfl, lw5, by rw [Array.toArray_toList], vw5⟩, .inl rfl⟩, k14⟩
  have F15 := fun_mk (st := s_kind) l15 c15 k15
  have b15 := F15.binds (ps := p_kind) fun _ _ _ _ _ _ us hl => match us, hl with | [_, _], _ => rfl
  have F16 := fun_mk (st := s_check_cells) l16 c16 k16
  have b16 := F16.binds (ps := p_check_cells) fun _ _ _ _ _ _ us hl => match us, hl with | [_], _ => rfl
  have F17 := fun_mk (st := s_check_room) l17 c17 k17
  have b17 := F17.binds (ps := p_check_room) fun _ _ _ _ _ _ us hl => match us, hl with | [_], _ => rfl
  have F18 := fun_mk (st := s_are_lines) l18 c18 k18
  have b18 := F18.binds (ps := p_are_lines) fun _ _ _ _ _ _ us hl => match us, hl with | [_, _, _], _ => rfl
  have F19 := fun_mk (st := s_is_line) l19 c19 k19
  have b19 := F19.binds (ps := p_is_line) fun _ _ _ _ _ _ us hl => match us, hl with | [_, _, _], _ => rfl
  have F20 := fun_mk (st := s_filled) l20 c20 k20
  have b20 := F20.binds (ps := p_filled) fun _ _ _ _ _ _ us hl => match us, hl with | [_, _], _ => rfl
  have F21 := fun_mk (st := s_nodes_of) l21 c21 k21
  have b21 := F21.binds (ps := p_nodes_of) fun _ _ _ _ _ _ us hl => match us, hl with | [_], _ => rfl
  have F22 := fun_mk (st := s_node_of) l22 c22 k22
  have b22 := F22.binds (ps := p_node_of) fun _ _ _ _ _ _ us hl => match us, hl with | [_, _], _ => rfl
  have F23 := fun_mk (st := s_targets_of) l23 c23 k23
  have b23 := F23.binds (ps := p_targets_of) fun _ _ _ _ _ _ us hl => match us, hl with | [_, _], _ => rfl
  have F24 := fun_mk (st := s_law_feed) l24 c24 k24
  have b24 := F24.binds (ps := p_law_feed) fun _ _ _ _ _ _ us hl => match us, hl with | [_, _], _ => rfl
  have F25 := fun_mk (st := s_law_take) l25 c25 k25
  have b25 := F25.binds (ps := p_law_take) fun _ _ _ _ _ _ us hl => match us, hl with | [_, _], _ => rfl
  have F26 := fun_mk (st := s_law_pick) l26 c26 k26
  have b26 := F26.binds (ps := p_law_pick) fun _ _ _ _ _ _ us hl => match us, hl with | [_, _], _ => rfl
  have F27 := fun_mk (st := s_law_cells) l27 c27 k27
  have b27 := F27.binds (ps := p_law_cells) fun _ _ _ _ _ _ us hl => match us, hl with | [_, _], _ => rfl
  have F28 := fun_mk (st := s_law_lines) l28 c28 k28
  have b28 := F28.binds (ps := p_law_lines) fun _ _ _ _ _ _ us hl => match us, hl with | [_, _, _], _ => rfl
  have F29 := fun_mk (st := s_law_layout) l29 c29 k29
  have b29 := F29.binds (ps := p_law_layout) fun _ _ _ _ _ _ us hl => match us, hl with | [_, _], _ => rfl
  have F30 := fun_mk (st := s_law_order) l30 c30 k30
  have b30 := F30.binds (ps := p_law_order) fun _ _ _ _ _ _ us hl => match us, hl with | [_], _ => rfl
  have F31 := fun_mk (st := s_law_nodes) l31 c31 k31
  have b31 := F31.binds (ps := p_law_nodes) fun _ _ _ _ _ _ us hl => match us, hl with | [_, _, _], _ => rfl
  have F32 := fun_mk (st := s_law_straight) l32 c32 k32
  have b32 := F32.binds (ps := p_law_straight) fun _ _ _ _ _ _ us hl => match us, hl with | [_, _, _], _ => rfl
  have F33 := fun_mk (st := s_law_text) l33 c33 k33
  have b33 := F33.binds (ps := p_law_text) fun _ _ _ _ _ _ us hl => match us, hl with | [_], _ => rfl
  have F34 := fun_mk (st := s_law_start) l34 c34 k34
  have b34 := F34.binds (ps := p_law_start) fun _ _ _ _ _ _ us hl => match us, hl with | [_, _], _ => rfl
  have F35 := fun_mk (st := s_law_steps) l35 c35 k35
  have b35 := F35.binds (ps := p_law_steps) fun _ _ _ _ _ _ us hl => match us, hl with | [_, _, _], _ => rfl
  have F36 := fun_mk (st := s_law_graph) l36 c36 k36
  have b36 := F36.binds (ps := p_law_graph) fun _ _ _ _ _ _ us hl => match us, hl with | [_, _, _], _ => rfl
  have F37 := fun_mk (st := s_law_case) l37 c37 k37
  have b37 := F37.binds (ps := p_law_case) fun _ _ _ _ _ _ us hl => match us, hl with | [_, _], _ => rfl
  have F38 := fun_mk (st := s_law_kind) l38 c38 k38
  have b38 := F38.binds (ps := p_law_kind) fun _ _ _ _ _ _ us hl => match us, hl with | [_, _, _], _ => rfl
  have F39 := fun_mk (st := s_law) l39 c39 k39
  have b39 := F39.binds (ps := p_law) fun _ _ _ _ _ _ us hl => match us, hl with | [_], _ => rfl
  have F40 := fun_mk (st := s_Graph_init) l40 c40 k40
  have b40 := F40.binds (ps := p_Graph_init) fun _ _ _ _ _ _ us hl => match us, hl with | [_, _, _], _ => rfl
  have F41 := fun_mk (st := s_Layout_init) l41 c41 k41
  have b41 := F41.binds (ps := p_Layout_init) fun _ _ _ _ _ _ us hl => match us, hl with | [_, _, _, _], _ => rfl
  have F42 := fun_mk (st := s_Layout_line_of) l42 c42 k42
  have b42 := F42.binds (ps := p_Layout_line_of) fun _ _ _ _ _ _ us hl => match us, hl with | [_, _], _ => rfl
  have F43 := fun_mk (st := s_Program_init) l43 c43 k43
  have b43 := F43.binds (ps := p_Program_init) fun _ _ _ _ _ _ us hl => match us, hl with | [_, _], _ => rfl
  have F44 := fun_mk (st := s_Program_parse) l44 c44 k44
  have b44 := F44.binds (ps := p_Program_parse) fun _ _ _ _ _ _ us hl => match us, hl with | [_], _ => rfl
  refine ⟨PySem.W.fnOf "law" "law" (defArgs s_law) (defBody s_law) (defScope s_law) .none kV39 dc39 pm39 an39 cd39 cx39, cT, Tb, fun s v => .of_eq rfl, tM, tN, PySem.W.codeHd_of_K X tH, fun base _ _ TB => ?_⟩
  have T : Txt0 K mg := ⟨(PySem.W.mg_none_of X G z1), (PySem.W.mg_none_of X G z2), (PySem.W.mg_none_of X G z3), (PySem.W.mg_none_of X G z4), (PySem.W.mg_none_of X G z5), (PySem.W.mg_none_of X G z6), (PySem.W.mg_none_of X G z7), (PySem.W.mg_none_of X G z8), (PySem.W.mg_none_of X G z9), ⟨t1, PySem.W.mg_of X G ct1⟩, ⟨t2, PySem.W.mg_of X G ct2⟩, ⟨t3, PySem.W.mg_of X G ct3⟩, ⟨t4, PySem.W.mg_of X G ct4⟩, (PySem.W.mg_none_of X G z10), (PySem.W.mg_none_of X G z11), (PySem.W.mg_none_of X G z12), (PySem.W.mg_none_of X G z13), ⟨t5, PySem.W.mg_of X G ct5⟩, ⟨ts1, PySem.W.mg_of X G cs1⟩, ⟨ts2, PySem.W.mg_of X G cs2⟩, ⟨aW, PySem.W.mg_of X G cw1, (fun _ => .inr ⟨_, itsw1, nw1, lw1, rfl, rfl, hw1, vw1⟩)⟩, (PySem.W.mg_none_of X G z14), (PySem.W.mg_none_of X G z15), (PySem.W.mg_none_of X G z16), (PySem.W.mg_none_of X G z17)⟩
  have TL : TxtL K mg C := ⟨⟨pgC, hdC, poC, saC⟩, nC0, nC1, nC2, nC3, PySem.W.mg_of X G aC⟩
  have TP : TxtP K mg CP := ⟨⟨pgCP, hdCP, poCP, saCP⟩, nCP0, nCP1, PySem.W.mg_of X G aCP⟩
  have TG : TxtG K mg CG := ⟨⟨pgCG, hdCG, poCG, saCG⟩, nCG0, nCG1, PySem.W.mg_of X G aCG⟩
  have TN : TxtN K mg aN bN := ⟨PySem.W.mg_of X G cw2, (fun _ => .inr ⟨_, itsw2, nw2, lw2, rfl, rfl, hw2, vw2⟩), (fun _ => .inr ⟨_, itsw3, nw3, lw3, rfl, rfl, hw3, vw3⟩)⟩
  have G1 : OkF l.prog w K mg base CX0 "is_integer" p_is_integer 1 sp_is_int := ⟨f1, _, PySem.W.mg_of X G a1, k1, b1, ok_is_int F1 T⟩
  have G2 : OkF l.prog w K mg base CX0 "is_integer_within" p_is_integer_within 2 sp_within := ⟨f2, _, PySem.W.mg_of X G a2, k2, b2, ok_within F2 G1⟩
  have G3 : OkF l.prog w K mg base CX0 "is_name" p_is_name 1 sp_is_name := ⟨f3, _, PySem.W.mg_of X G a3, k3, b3, ok_is_name F3 T⟩
  have G4 : OkF l.prog w K mg base CX0 "_check_cells" p_check_cells 3 sp_check_cells := ⟨f16, _, PySem.W.mg_of X G a16, k16, b16, ok_check_cells F16 T G3 G2⟩
  have G5 : OkF l.prog w K mg base CX0 "_check_room" p_check_room 3 sp_check_room := ⟨f17, _, PySem.W.mg_of X G a17, k17, b17, ok_check_room F17 T G2⟩
  have G6 : OkF l.prog w K mg base CX0 "_filled" p_filled 1 (sp_filled K) := ⟨f20, _, PySem.W.mg_of X G a20, k20, b20, ok_filled F20 T⟩
  have G7 : OkF l.prog w K mg base CX0 "_is_line" p_is_line 2 sp_is_line := ⟨f19, _, PySem.W.mg_of X G a19, k19, b19, ok_is_line F19 T G6⟩
  have G8 : OkF l.prog w K mg base CX0 "_are_lines" p_are_lines 3 sp_are_lines := ⟨f18, _, PySem.W.mg_of X G a18, k18, b18, ok_are_lines F18 T G7⟩
  have GI := ok_Layout_init (P := l.prog) (w := w) (base := base) F41 T TL G4 G5 G8
  have MK : Mk K C f41 := ⟨mkC, a41, i41, kcC⟩
  have GG := ok_Graph_init (P := l.prog) (w := w) (base := base) F40 TG
  have MG : Mk K CG f40 := ⟨mkCG, a40, i40, kcCG⟩
  have P1 : OkF l.prog w K mg base CX0 "_targets_of" p_targets_of 1 (sp_targets_of K) := ⟨f23, _, PySem.W.mg_of X G a23, k23, b23, ok_targets_of F23 T⟩
  have P2 : OkF l.prog w K mg base CX0 "_node_of" p_node_of 2 sp_node_of := ⟨f22, _, PySem.W.mg_of X G a22, k22, b22, ok_node_of F22 T G3 P1⟩
  have P3 : OkF l.prog w K mg base CX0 "_nodes_of" p_nodes_of 3 sp_nodes_of := ⟨f21, _, PySem.W.mg_of X G a21, k21, b21, ok_nodes_of F21 T P2⟩
  have PI := ok_Program_init (P := l.prog) (w := w) (base := base) F43 TP P3
  have PP := ok_parse F44 TP ⟨mkCP, a43, i43, kcCP⟩ PI b43
  have ML : Meth K C "line_of" f42 := ⟨a42, i42, k42⟩
  have A1 : OkF l.prog w K mg base CX0 "_exchanged" p_exchanged 1 (sp_exchanged K) := ⟨f10, _, PySem.W.mg_of X G a10, k10, b10, ok_exchanged F10⟩
  have A2 : OkF l.prog w K mg base CX0 "_touched" p_touched 2 (sp_touched K) := ⟨f9, _, PySem.W.mg_of X G a9, k9, b9, ok_touched F9 T A1⟩
  have A3 : OkF l.prog w K mg base CX0 "places_at_start" p_places_at_start 1 (sp_places_at_start K) := ⟨f6, _, PySem.W.mg_of X G a6, k6, b6, ok_places_at_start F6 T⟩
  have A4 : OkF l.prog w K mg base CX0 "lines_at_start" p_lines_at_start 1 (sp_lines_at_start K C) := ⟨f7, _, PySem.W.mg_of X G a7, k7, b7, ok_lines_at_start F7 T TL TN⟩
  have A5 : OkF l.prog w K mg base CX0 "placed" p_placed 2 (sp_placed K C CP) := ⟨f5, _, PySem.W.mg_of X G a5, k5, b5, ok_placed F5 T ⟨ts3, PySem.W.mg_of X G cs3⟩ TL TP ML (ok_Layout_line_of F42 T TL) b42⟩
  have A6 : OkF l.prog w K mg base CX0 "start" p_start 3 (sp_start K C CP) := ⟨f11, _, PySem.W.mg_of X G a11, k11, b11, ok_start F11 A5 A3 A4⟩
  have A7 : OkF l.prog w K mg base CX0 "steps_ahead" p_steps_ahead 3 (sp_steps_ahead K) := ⟨f8, _, PySem.W.mg_of X G a8, k8, b8, ok_steps_ahead F8 T A2 A1⟩
  obtain ⟨dsF, hvF, b14⟩ := FunD.binds1 F14 (ps := p_explored_from) 4 1 (by simp) rfl (fun _ _ _ _ _ _ _ us its hu hi => match us, its, hu, hi with | [_, _, _, _], [_], _, _ => ⟨_, rfl, rfl⟩)
  have hvF' : Vals [] dsF := hvF
  cases hvF'
  have E1 : OkF l.prog w K mg base (L2.CX l.prog w) "explored_from" p_explored_from 6 (sp_explored_from K C CP CG CT Tb) := ⟨f14, _, PySem.W.mg_of X G a14, k14, b14, ok_explored_from F14 rfl TB T F4 (PySem.W.mg_of X G a4) b4 TG EPT MG GG b40 A5 A7⟩
  have GE := ok_explored F13 A6 E1
  obtain ⟨dsE, hvE, hbE⟩ := FunD.binds1 F13 (ps := p_explored) 2 0 (by simp) rfl (fun _ _ _ _ _ _ _ us its hu hi => match us, its, hu, hi with | [_, _], [_], _, _ => ⟨_, rfl, rfl⟩)
  have E2 : OkF l.prog w K mg base CX0 "_kind" p_kind 1 sp_kind := ⟨f15, _, PySem.W.mg_of X G a15, k15, b15, ok_kind F15⟩
  have E3 : OkF l.prog w K mg base CX0 "node_kinds" p_node_kinds 8 (sp_node_kinds K C CP Tb) := ⟨f12, _, PySem.W.mg_of X G a12, k12, b12, ok_node_kinds F12 T TP TG GE (PySem.W.mg_of X G a13) k13 hbE hvE E2⟩
  have L1 : OkF l.prog w K mg base CX0 "_law_feed" p_law_feed 1 (sp_law_feed K) := ⟨f24, _, PySem.W.mg_of X G a24, k24, b24, ok_law_feed F24 T⟩
  have L2_ : OkF l.prog w K mg base CX0 "_law_take" p_law_take 1 sp_law_take := ⟨f25, _, PySem.W.mg_of X G a25, k25, b25, ok_law_take F25 T⟩
  have L3 : OkF l.prog w K mg base CX0 "_law_pick" p_law_pick 2 (sp_law_pick K) := ⟨f26, _, PySem.W.mg_of X G a26, k26, b26, ok_law_pick F26 T L2_⟩
  have L4 : OkF l.prog w K mg base CX0 "_law_cells" p_law_cells 3 sp_law_cells := ⟨f27, _, PySem.W.mg_of X G a27, k27, b27, ok_law_cells F27 T L2_ L3⟩
  have L5 : OkF l.prog w K mg base CX0 "_law_lines" p_law_lines 3 sp_law_lines := ⟨f28, _, PySem.W.mg_of X G a28, k28, b28, ok_law_lines F28 T L2_⟩
  have L6 : OkF l.prog w K mg base CX0 "_law_layout" p_law_layout 4 sp_law_layout := ⟨f29, _, PySem.W.mg_of X G a29, k29, b29, ok_law_layout F29 T L4 L2_ L5⟩
  have L7 : OkF l.prog w K mg base CX0 "_law_order" p_law_order 1 sp_law_order := ⟨f30, _, PySem.W.mg_of X G a30, k30, b30, ok_law_order F30 T⟩
  have L8 : OkF l.prog w K mg base CX0 "_law_nodes" p_law_nodes 3 (sp_law_nodes K) := ⟨f31, _, PySem.W.mg_of X G a31, k31, b31, ok_law_nodes F31 T L2_ L3⟩
  have L9 : OkF l.prog w K mg base CX0 "_law_straight" p_law_straight 3 (sp_law_straight K) := ⟨f32, _, PySem.W.mg_of X G a32, k32, b32, ok_law_straight F32 T L2_ L3⟩
  have L10 : OkF l.prog w K mg base CX0 "_law_text" p_law_text 1 sp_law_text := ⟨f33, _, PySem.W.mg_of X G a33, k33, b33, ok_law_text F33 T⟩
  have L11 : OkF l.prog w K mg base CX0 "_law_start" p_law_start 1 sp_law_start := ⟨f34, _, PySem.W.mg_of X G a34, k34, b34, ok_law_start F34 T⟩
  have L12 : OkF l.prog w K mg base CX0 "_law_steps" p_law_steps 1 sp_law_steps := ⟨f35, _, PySem.W.mg_of X G a35, k35, b35, ok_law_steps F35 T⟩
  have L13 : OkF l.prog w K mg base CX0 "_law_graph" p_law_graph 2 (sp_law_graph l.prog w) := ⟨f36, _, PySem.W.mg_of X G a36, k36, b36, ok_law_graph F36 T L11 L12⟩
  have L14 : OkF l.prog w K mg base CX0 "_law_case" p_law_case 5 (sp_law_case l.prog w) := ⟨f37, _, PySem.W.mg_of X G a37, k37, b37, ok_law_case F37 T L6 L7 L2_ L3 L9 L8 L13⟩
  have L15 : OkF l.prog w K mg base CX0 "_law_kind" p_law_kind 1 (sp_law_kind l.prog w) := ⟨f38, _, PySem.W.mg_of X G a38, k38, b38, ok_law_kind F38 T (PySem.W.mg_none_of X G z19)⟩
  exact ok_law F39 T (PySem.W.mg_none_of X G z19) (PySem.W.mg_none_of X G z18) TL TP L1 L14 L10 L2_ L13 L15 E3 MK GI b41 ⟨rdCP, gaCP⟩ ⟨fc44, ⟨rest44, a44⟩, k44⟩ PP b44
theorem walk {l : PySem.W.OpenLaw} {q : Program} {loose : List Str} {XP : (Str → Option Value) → Heap → Prop} {YP : World → Heap → Prop} {d : DefRec} {K : Params → PySem.W.Frag} (hn : l.most = some 63) (hdf : d.params.defaults = [])
    (hY : ∀ (w : World) (h : Heap), YP w h → (K w.params).In h)
    (F : ∀ (w : World) (mg : Str → Option Value) (fa : Addr) (h : Heap), YP w h → (K w.params).In h → h.Ns mainGlobals mg → mg d.name = some (.ref fa) →
      ∃ (fd : FuncData) (c T : Addr), (∀ (s : Shared) (u : Value), BindsTo s fd ⟨[u], []⟩ [("script", u)]) ∧ h.get? T = some { cls := .none, data := .fields #[] } ∧ (K w.params).lookup T = none ∧ PySem.W.CodeHd h c T ∧ ∀ base : Heap, (K w.params).In base → base.Ns mainGlobals mg → LamX.TabB base mg c T → FnG l.prog w (K w.params) mg base CX0 9 fa fd ["script"] (sp_law (K w.params) T)) :
    PySem.W.WalkO q loose XP YP l.row.toRowW d [] (fun f vs => PySem.call f vs) :=
  walk_tab (n := 63) (k := 9) (x := "script") (CX := fun _ => CX0) (sp := fun w T => sp_law (K w.params) T) hn (by decide) hdf ⟨rfl, by decide, by decide⟩ hY F (fun _ T H a ns hl hT hS => ⟨a, ns, rfl, hS, hl, fun p hp => by rw [List.mem_singleton.mp hp]; exact LamX.TabS.nil hT, fun _ => rfl⟩) fun _ _ _ _ _ z => z
end Vf

open PySem PySem.W PyProof.Rows
set_option maxRecDepth 100000 in
set_option maxHeartbeats 0 in
theorem PySem.Challenge.cw_sharedlines_k24_kinds_of_nodes_holds : PySem.Challenge.rw_sharedlines_k24_kinds_of_nodes.Holds := by
  w_on; o_law; km_head; (case hw => w_witness2)
  k_fill
  refine Vf.walk (l := PySem.Challenge.rw_sharedlines_k24_kinds_of_nodes) rfl rfl (fun w h Y => PySem.W.km_in_of Y) ?F
  case F =>
    intro w mg fa h Y KX G hmg
    refine' Vf.all_mk KX G hmg ?aCG ?aC ?aCP ?a1 ?l1 ?c1 ?k1 ?a2 ?l2 ?c2 ?k2 ?a3 ?l3 ?c3 ?k3 ?a4 ?l4 ?c4 ?k4 ?a5 ?l5 ?c5 ?k5 ?a6 ?l6 ?c6 ?k6 ?a7 ?l7 ?c7 ?k7 ?a8 ?l8 ?c8 ?k8 ?a9 ?l9 ?c9 ?k9 ?a10 ?l10 ?c10 ?k10 ?a11 ?l11 ?c11 ?k11 ?a12 ?l12 ?c12 ?k12 ?a13 ?l13 ?c13 ?k13 ?a14 ?l14 ?c14 ?k14 ?a15 ?l15 ?c15 ?k15 ?a16 ?l16 ?c16 ?k16 ?a17 ?l17 ?c17 ?k17 ?a18 ?l18 ?c18 ?k18 ?a19 ?l19 ?c19 ?k19 ?a20 ?l20 ?c20 ?k20 ?a21 ?l21 ?c21 ?k21 ?a22 ?l22 ?c22 ?k22 ?a23 ?l23 ?c23 ?k23 ?a24 ?l24 ?c24 ?k24 ?a25 ?l25 ?c25 ?k25 ?a26 ?l26 ?c26 ?k26 ?a27 ?l27 ?c27 ?k27 ?a28 ?l28 ?c28 ?k28 ?a29 ?l29 ?c29 ?k29 ?a30 ?l30 ?c30 ?k30 ?a31 ?l31 ?c31 ?k31 ?a32 ?l32 ?c32 ?k32 ?a33 ?l33 ?c33 ?k33 ?a34 ?l34 ?c34 ?k34 ?a35 ?l35 ?c35 ?k35 ?a36 ?l36 ?c36 ?k36 ?a37 ?l37 ?c37 ?k37 ?a38 ?l38 ?c38 ?k38 ?a39 ?l39 ?c39 ?k39 ?a40 ?i40 ?l40 ?c40 ?k40 ?a41 ?i41 ?l41 ?c41 ?k41 ?a42 ?i42 ?l42 ?c42 ?k42 ?a43 ?i43 ?l43 ?c43 ?k43 ?tcCP ?rdCP ?gaCP ?fc44 ?a44 ?l44 ?c44 ?k44 ?pgCG ?hdCG ?poCG ?saCG ?mkCG ?kcCG ?nCG0 ?nCG1 ?pgC ?hdC ?poC ?saC ?mkC ?kcC ?nC0 ?nC1 ?nC2 ?nC3 ?pgCP ?hdCP ?poCP ?saCP ?mkCP ?kcCP ?nCP0 ?nCP1 ?xAT ?xET ?xKT ?xBT ?xTT ?xCT ?xST ?tC ?tL ?tV ?tH ?tN ?tM ?ct1 ?ct2 ?ct3 ?ct4 ?ct5 ?cs1 ?hs1 ?cs2 ?hs2 ?cs3 ?hs3 ?cw1 ?lw1 ?vw1 ?cw2 ?lw2 ?vw2 ?lw3 ?vw3 ?lw4 ?vw4 ?lw5 ?vw5 ?z1 ?z2 ?z3 ?z4 ?z5 ?z6 ?z7 ?z8 ?z9 ?z10 ?z11 ?z12 ?z13 ?z14 ?z15 ?z16 ?z17 ?z18 ?z19
    (case aCG => k_is); (case aC => k_is); (case aCP => k_is); (case a1 => k_is); (case l1 => k_is); (case c1 => k_is)
    (case k1 => k_is); (case a2 => k_is); (case l2 => k_is); (case c2 => k_is); (case k2 => k_is); (case a3 => k_is)
    (case l3 => k_is); (case c3 => k_is); (case k3 => k_is); (case a4 => k_is); (case l4 => k_is); (case c4 => k_is)
    (case k4 => k_is); (case a5 => k_is); (case l5 => k_is); (case c5 => k_is); (case k5 => k_is); (case a6 => k_is)
    (case l6 => k_is); (case c6 => k_is); (case k6 => k_is); (case a7 => k_is); (case l7 => k_is); (case c7 => k_is)
    (case k7 => k_is); (case a8 => k_is); (case l8 => k_is); (case c8 => k_is); (case k8 => k_is); (case a9 => k_is)
    (case l9 => k_is); (case c9 => k_is); (case k9 => k_is); (case a10 => k_is); (case l10 => k_is); (case c10 => k_is)
    (case k10 => k_is); (case a11 => k_is); (case l11 => k_is); (case c11 => k_is); (case k11 => k_is); (case a12 => k_is)
    (case l12 => k_is); (case c12 => k_is); (case k12 => k_is); (case a13 => k_is); (case l13 => k_is); (case c13 => k_is)
    (case k13 => k_is); (case a14 => k_is); (case l14 => k_is); (case c14 => k_is); (case k14 => k_is); (case a15 => k_is)
    (case l15 => k_is); (case c15 => k_is); (case k15 => k_is); (case a16 => k_is); (case l16 => k_is); (case c16 => k_is)
    (case k16 => k_is); (case a17 => k_is); (case l17 => k_is); (case c17 => k_is); (case k17 => k_is); (case a18 => k_is)
    (case l18 => k_is); (case c18 => k_is); (case k18 => k_is); (case a19 => k_is); (case l19 => k_is); (case c19 => k_is)
    (case k19 => k_is); (case a20 => k_is); (case l20 => k_is); (case c20 => k_is); (case k20 => k_is); (case a21 => k_is)
    (case l21 => k_is); (case c21 => k_is); (case k21 => k_is); (case a22 => k_is); (case l22 => k_is); (case c22 => k_is)
    (case k22 => k_is); (case a23 => k_is); (case l23 => k_is); (case c23 => k_is); (case k23 => k_is); (case a24 => k_is)
    (case l24 => k_is); (case c24 => k_is); (case k24 => k_is); (case a25 => k_is); (case l25 => k_is); (case c25 => k_is)
    (case k25 => k_is); (case a26 => k_is); (case l26 => k_is); (case c26 => k_is); (case k26 => k_is); (case a27 => k_is)
    (case l27 => k_is); (case c27 => k_is); (case k27 => k_is); (case a28 => k_is); (case l28 => k_is); (case c28 => k_is)
    (case k28 => k_is); (case a29 => k_is); (case l29 => k_is); (case c29 => k_is); (case k29 => k_is); (case a30 => k_is)
    (case l30 => k_is); (case c30 => k_is); (case k30 => k_is); (case a31 => k_is); (case l31 => k_is); (case c31 => k_is)
    (case k31 => k_is); (case a32 => k_is); (case l32 => k_is); (case c32 => k_is); (case k32 => k_is); (case a33 => k_is)
    (case l33 => k_is); (case c33 => k_is); (case k33 => k_is); (case a34 => k_is); (case l34 => k_is); (case c34 => k_is)
    (case k34 => k_is); (case a35 => k_is); (case l35 => k_is); (case c35 => k_is); (case k35 => k_is); (case a36 => k_is)
    (case l36 => k_is); (case c36 => k_is); (case k36 => k_is); (case a37 => k_is); (case l37 => k_is); (case c37 => k_is)
    (case k37 => k_is); (case a38 => k_is); (case l38 => k_is); (case c38 => k_is); (case k38 => k_is); (case a39 => k_is)
    (case l39 => k_is); (case c39 => k_is); (case k39 => k_is); (case a40 => k_is); (case i40 => k_is); (case l40 => k_is)
    (case c40 => k_is); (case k40 => k_is); (case a41 => k_is); (case i41 => k_is); (case l41 => k_is); (case c41 => k_is)
    (case k41 => k_is); (case a42 => k_is); (case i42 => k_is); (case l42 => k_is); (case c42 => k_is); (case k42 => k_is)
    (case a43 => k_is); (case i43 => k_is); (case l43 => k_is); (case c43 => k_is); (case k43 => k_is); (case tcCP => k_is)
    (case rdCP => k_is); (case gaCP => k_is); (case fc44 => k_is); (case a44 => k_is); (case l44 => k_is); (case c44 => k_is)
    (case k44 => k_is); (case pgCG => k_is); (case hdCG => k_is); (case poCG => k_is); (case saCG => k_is); (case mkCG => k_is)
    (case kcCG => k_is); (case nCG0 => k_is); (case nCG1 => k_is); (case pgC => k_is); (case hdC => k_is); (case poC => k_is)
    (case saC => k_is); (case mkC => k_is); (case kcC => k_is); (case nC0 => k_is); (case nC1 => k_is); (case nC2 => k_is)
    (case nC3 => k_is); (case pgCP => k_is); (case hdCP => k_is); (case poCP => k_is); (case saCP => k_is); (case mkCP => k_is)
    (case kcCP => k_is); (case nCP0 => k_is); (case nCP1 => k_is); (case xAT => k_is); (case xET => k_exc); (case xKT => k_is)
    (case xBT => k_is); (case xTT => k_is); (case xCT => k_is); (case xST => k_is); (case tC => rfl); (case tL => k_is)
    (case tV => rfl); (case tH => kernel_rfl); (case tN => kernel_rfl); (case tM => exact PySem.W.km_tabs_of Y _ (by k_mem)); (case ct1 => k_is); (case ct2 => k_is)
    (case ct3 => k_is); (case ct4 => k_is); (case ct5 => k_is); (case cs1 => k_is); (case hs1 => decide +kernel); (case cs2 => k_is)
    (case hs2 => decide +kernel); (case cs3 => k_is); (case hs3 => decide +kernel); (case cw1 => k_is); (case lw1 => k_is); (case vw1 => exact .cons ⟨_, rfl⟩ (.cons ⟨_, rfl⟩ .nil))
    (case cw2 => k_is); (case lw2 => k_is); (case vw2 => exact .cons rfl (.cons rfl .nil)); (case lw3 => k_is); (case vw3 => exact .nil); (case lw4 => k_is)
    (case vw4 => exact .cons ⟨_, rfl⟩ .nil); (case lw5 => k_is); (case vw5 => exact .cons ⟨_, rfl⟩ .nil); (case z1 => k_is); (case z2 => k_is); (case z3 => k_is)
    (case z4 => k_is); (case z5 => k_is); (case z6 => k_is); (case z7 => k_is); (case z8 => k_is); (case z9 => k_is)
    (case z10 => k_is); (case z11 => k_is); (case z12 => k_is); (case z13 => k_is); (case z14 => k_is); (case z15 => k_is)
    (case z16 => k_is); (case z17 => k_is); (case z18 => k_is); (case z19 => k_is)
#print axioms PySem.Challenge.cw_sharedlines_k24_kinds_of_nodes_holds
