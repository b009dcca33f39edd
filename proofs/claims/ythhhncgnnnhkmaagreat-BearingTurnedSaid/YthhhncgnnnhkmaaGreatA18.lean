import Derived.Conc.WgGenN3
import Derived.Test.YthhhncgnnnhkmaaGreatA16
set_option linter.all false
namespace Go.Crew
open Go.Conc Go.ConcN Go.Ren Go.RowKit Go.Conc.Lib Go.ConcR.Gen
open Go.ConcR (KK wgBlock WgAt stA smA rd wr mk DC0)
section
variable[Hidden]
structure RG(Ro own:Nat→Prop)(ty:TypeId)(Wg Ch:Nat)(w w1:World):Prop where
 rely:Rely Ro own w w1
 live:Live ty Wg Ch w1
theorem rg{Ro own:Nat→Prop}{ty:TypeId}{Wg Ch:Nat}{w0 w w1:World}(h:RG Ro own ty Wg Ch w0 w)(r:RG Ro own ty Wg Ch w w1):RG Ro own ty Wg Ch w0 w1:=⟨h.rely.trans r.rely,r.live⟩
theorem rg_set{Ro own:Nat→Prop}{ty:TypeId}{Wg Ch:Nat}{w0 w w1:World}(hCW:Ch≠Wg)(hW:¬Ro Wg∧¬own Wg)(h:RG Ro own ty Wg Ch w0 w)(hA:Aside Wg w w1)(hl:WgLive ty Wg w1):RG Ro own ty Wg Ch w0 w1:=
 ⟨h.rely.trans ⟨by rw[hA.size];exact Nat.le_refl _,fun b _ ho=>hA.block b fun e=>by subst e;exact ho.elim hW.1 hW.2,by obtain⟨_,_,h1⟩:=h.live.1;obtain⟨_,_,h2⟩:=hl;exact stay_wg hA h1 h2,by obtain⟨_,_,h1⟩:=h.live.1;exact stayc_wg hA h1⟩,hl,by obtain⟨c,b,s,r,tm,h1⟩:=h.live.2;exact⟨c,b,s,r,tm,(hA.block Ch hCW).trans h1⟩⟩
section
variable{P:Program}{m:Bool}{ty:TypeId}{Wg Ch:Nat}{Ro:Nat→Prop}{own:Nat→Prop}
theorem onway_of{k:Kind}:∀(n:Nat) {g:Goroutine} {w:World},Live ty Wg Ch w→Goes P m (RG Ro own ty Wg Ch) DC0 (fun g w=>OnWay P Ro (Live ty Wg Ch) m k ⟨g,w,own⟩) n g w→OnWay P Ro (Live ty Wg Ch) m k ⟨g,w,own⟩:=by
 intro n
 induction n with
 |zero=>
  intro g w hl h
  rcases Goes.cases h with hstop|⟨_,e,_⟩
  .exact hstop w ⟨Rely.refl _ _ _,hl⟩
  .cases e
 |succ n ih=>
  intro g w hl h
  have hr:g.status=.running:=Goes.running (fun g w h=>OnWay.status h) w ⟨Rely.refl _ _ _,hl⟩ h
  rcases Goes.cases h with hstop|⟨k',e,hstep⟩
  .exact hstop w ⟨Rely.refl _ _ _,hl⟩
  .obtain rfl:n=k':=by omega
   have key:∀w1,Rely Ro own w w1→Live ty Wg Ch w1→∃g',stepG P m g w1=.go g' w1 #[]∧Goes P m (RG Ro own ty Wg Ch) DC0 (fun g w=>OnWay P Ro (Live ty Wg Ch) m k ⟨g,w,own⟩) n g' w1:=fun w1 hr1 hl1=>by
    obtain⟨g',w',es,h1,⟨h2,h3⟩,h4⟩:=hstep w1 ⟨hr1,hl1⟩
    subst h2 h3
    exact⟨g',h1,h4⟩
   let G:World→Goroutine:=fun w1=>match stepG P m g w1 with|.go g' _ _=>g'|_=>g
   have hG:∀w1,Rely Ro own w w1→Live ty Wg Ch w1→stepG P m g w1=.go (G w1) w1 #[]∧Goes P m (RG Ro own ty Wg Ch) DC0 (fun g w=>OnWay P Ro (Live ty Wg Ch) m k ⟨g,w,own⟩) n (G w1) w1:=fun w1 hr1 hl1=>by
    obtain⟨g',h1,h3⟩:=key w1 hr1 hl1
    have e1:G w1=g':=by simp only[G,h1]
    rw[e1]
    exact⟨h1,h3⟩
   refine Ren.Way.step hr G id (fun _=>#[]) (fun w1 hr1 hl1=>⟨(hG w1 hr1 hl1).1,⟨fun _=>⟨rfl,rfl⟩,Nat.le_refl _,fun _ _ _=>rfl,rfl,fun b hb=>hb,fun e he=>(by simp at he),.refl _,.refl _⟩⟩) fun w1 hr1 hl1=>?_
   .show Ren.Way P m Ro (Live ty Wg Ch) k.quiet k.X k.Stop (G w1) w1 (more own w1 w1)
    rw[more_same]
    exact ih hl1 (hG w1 hr1 hl1).2
theorem onway_said{k:Kind}{g g':Goroutine}{w:World}{e:Event}(hq:k.quiet=false)(hX:k.X e)(hs:g.status=.running)(h:∀w1,RG Ro own ty Wg Ch w w1→stepG P m g w1=.go g' w1 #[e])(h':∀w1,RG Ro own ty Wg Ch w w1→OnWay P Ro (Live ty Wg Ch) m k ⟨g',w1,own⟩):OnWay P Ro (Live ty Wg Ch) m k ⟨g,w,own⟩:=by
 refine Ren.Way.step hs (fun _=>g') id (fun _=>#[e]) (fun w1 hr1 hl1=>⟨h w1 ⟨hr1,hl1⟩,⟨fun hqt=>absurd (hq.symm.trans hqt) (by decide),Nat.le_refl _,fun _ _ _=>rfl,rfl,fun b hb=>hb,fun e' he=>.inr ?_,.refl _,.refl _⟩⟩) fun w1 hr1 hl1=>?_
 .simp at he
  subst he
  exact hX
 .show Ren.Way P m Ro (Live ty Wg Ch) k.quiet k.X k.Stop g' w1 (more own w1 w1)
  rw[more_same]
  exact h' w1 ⟨hr1,hl1⟩
end
end
open Go.ConcN.Gen
section
variable[Hidden]{P:Program}{L:WgLink}{Ro own:Nat→Prop}{Wg Ch:Nat}{pay:Nat→Option Pay}{i:Nat}{Next:Rank→Prop}
 {b₀:Frame} {a₀:Act} {ops₀:Array Oper} {i₀:Nat} {rest₀:List Nat} {k₀:List Item} {cs:List Frame}
set_option maxRecDepth 100000 in
set_option maxHeartbeats 16000000 in
theorem add_pos(H:WgLib P L)(hCW:Ch≠Wg)(hW:¬Ro Wg∧¬own Wg){w0:World}(hT:∀w,RG Ro own L.tWg Wg Ch w0 w→OnWay P Ro (Live L.tWg Wg Ch) true (kM Wg (SGo P L.tWg Wg Ch Ro pay i Next)) ⟨G (b₀.at (a₀.put ((ops₀[i₀]?).bind (·.dst)) (.tuple #[])) (.inRegion ops₀ rest₀::k₀)) cs,w,own⟩)(w:World)(hF:RG Ro own L.tWg Wg Ch w0 w):OnWay P Ro (Live L.tWg Wg Ch) true (kM Wg (SKdS P L.tWg Wg Ch Ro pay i Next)) ⟨G ((base L.add).at ⟨#[.pointer (some ⟨Wg,0,none⟩),.int .i64 1]++Array.replicate 115 undef,[]⟩ [.code (body_add L)]) (b₀.at a₀ (.inRegion ops₀ (i₀::rest₀)::k₀)::cs),w,own⟩:=by
 lib_facts
 refine onway_of 100 hF.live ?_
 simp only[body_add,addFn,Option.getD_some]
 walk_nrm
 u_c stepG_seq rg hF
 u_cond true rg hF
 u_c stepG_seq rg hF
 u_c stepG_seq rg hF
 u_reg rg hF
 u_op rg hF
 u_op rg hF
 u_c stepG_region_end rg hF
 u_cond false rg hF
 u_c stepG_skip rg hF
 u_c stepG_seq rg hF
 u_reg rg hF
 refine Goes.stop (fun _ h₁=>Ren.Way.stop rfl (fun _ h₂ h₃=>?_));replace hF:=rg (rg hF h₁) ⟨h₂,h₃⟩;clear h₁ h₂ h₃
 refine⟨_,stepG_mark0 .disable (by simp) rfl rfl (by k_ne) rfl H.f_disable (x_disable_n L) (x_disable_b L) (x_disable_x L) (x_disable_f L),onway_of 100 hF.live ?_⟩
 walk_nrm
 u_c stepG_region_end rg hF
 u_reg rg hF
 u_defer rg hF
 u_c stepG_region_end rg hF
 u_c stepG_seq rg hF
 u_reg rg hF
 u_op rg hF
 u_c stepG_region_end rg hF
 u_c stepG_seq rg hF
 u_c stepG_seq rg hF
 u_reg rg hF
 u_bub rg hF
 u_c stepG_region_end rg hF
 u_cond false rg hF
 u_c stepG_skip rg hF
 u_c stepG_seq rg hF
 u_reg rg hF
 u_op rg hF
 u_op rg hF
 u_op rg hF
 u_op rg hF
 u_op rg hF
 u_op rg hF
 u_call H.f_uAdd (nm_uAdd L) uAddFn rg hF
 u_c stepG_seq rg hF
 u_reg rg hF
 u_op rg hF
 u_c stepG_region_end rg hF
 u_c stepG_seq rg hF
 u_reg rg hF
 u_op rg hF
 u_op rg hF
 u_op rg hF
 u_op rg hF
 refine Goes.stop (fun _ h₁=>Ren.Way.stop rfl (fun _ h₂ h₃=>?_));replace hF:=rg (rg hF h₁) ⟨h₂,h₃⟩;clear h₁ h₂ h₃
 refine fun v hv hw=>?_
 rename_i w₂
 rcases Nat.eq_zero_or_pos v with rfl|hvp
 .
  replace hw:WgAt L.tWg Wg w₂ 0 0:=by simpa using hw
  have z:(((0:Nat):Int)+1)*KK=KK:=by simp
  rw[z]
  have e0:IntKind.u64.wrap (0+4294967296)=KK:=by decide
  replace hF:=rg_set hCW hW hF (aside_setCell w₂ (stA Wg) (.int .u64 KK)) ⟨_,_,hw.setSt _⟩
  refine⟨_,(stepG_add_atomic rfl rfl (by k_ne) rfl H.f_addU64 (x_addU64_n L) (x_addU64_b L) (x_addU64_x L) .u64 (x_addU64_f L) rfl rfl hw.cellSt (hw.thaw 0)).trans (by rw[e0];rfl),onway_of 400 hF.live ?_⟩
  clear hw
  simp only[KK] at hF⊢
  walk_nrm
  u_op rg hF
  u_c stepG_region_end rg hF
  u_c stepG_ret' rg hF
  u_leave1 H.f_uAdd rg hF
  u_op rg hF
  u_c stepG_region_end rg hF
  u_c stepG_seq rg hF
  u_c stepG_seq rg hF
  u_reg rg hF
  u_op rg hF
  u_op rg hF
  u_op rg hF
  u_op rg hF
  u_skip rg hF
  u_skip rg hF
  u_op rg hF
  u_c stepG_region_end rg hF
  u_cond false rg hF
  u_c stepG_skip rg hF
  u_c stepG_seq rg hF
  u_reg rg hF
  u_op rg hF
  u_op rg hF
  u_op rg hF
  u_op rg hF
  u_c stepG_region_end rg hF
  u_c stepG_seq rg hF
  u_reg rg hF
  u_op rg hF
  u_op rg hF
  u_op rg hF
  u_op rg hF
  u_c stepG_region_end rg hF
  u_c stepG_seq rg hF
  u_c stepG_seq rg hF
  u_reg rg hF
  u_op rg hF
  u_op rg hF
  u_op rg hF
  u_op rg hF
  u_op rg hF
  u_op rg hF
  u_op rg hF
  u_op rg hF
  u_op rg hF
  u_op rg hF
  u_c stepG_region_end rg hF
  u_cond true rg hF
  u_reg rg hF
  u_op rg hF
  u_op rg hF
  u_op rg hF
  u_conv H.underlying_tPU32 H.room_tU32 (WgLive.cell1 hF.live.1).choose_spec rg hF
  refine Goes.stop (fun _ h₁=>onway_said (e:=⟨.mark (.read ⟨Wg,1,none⟩),false,true⟩) rfl (.inl ⟨⟨Wg,1,none⟩,.inl rfl,rfl⟩) rfl (fun _ _=>stepG_markAt .read (by simp) rfl rfl (by k_ne) rfl H.f_raceRead (x_raceRead_n L) (x_raceRead_b L) (x_raceRead_x L) (x_raceRead_f L) (by simp[Act.eval])) (fun _ h₂=>?_))
  replace hF:=rg (rg hF h₁) h₂
  clear h₁ h₂
  refine onway_of 400 hF.live ?_
  walk_nrm
  u_c stepG_region_end rg hF
  u_c stepG_seq rg hF
  u_c stepG_seq rg hF
  u_reg rg hF
  u_op rg hF
  u_op rg hF
  u_c stepG_region_end rg hF
  u_cond false rg hF
  u_c stepG_skip rg hF
  u_c stepG_seq rg hF
  u_c stepG_seq rg hF
  u_reg rg hF
  u_op rg hF
  u_op rg hF
  u_op rg hF
  u_skip rg hF
  u_skip rg hF
  u_op rg hF
  u_op rg hF
  u_skip rg hF
  u_skip rg hF
  u_skip rg hF
  u_skip rg hF
  u_op rg hF
  u_c stepG_region_end rg hF
  u_cond false rg hF
  u_c stepG_skip rg hF
  u_c stepG_seq rg hF
  u_c stepG_seq rg hF
  u_reg rg hF
  u_op rg hF
  u_op rg hF
  u_op rg hF
  u_skip rg hF
  u_skip rg hF
  u_op rg hF
  u_c stepG_region_end rg hF
  u_cond true rg hF
  u_c stepG_ret' rg hF
  refine Goes.stop (fun _ h₁=>Ren.Way.stop rfl (fun _ h₂ h₃=>?_));replace hF:=rg (rg hF h₁) ⟨h₂,h₃⟩;clear h₁ h₂ h₃
  refine⟨_,stepG_unwind_entry (v:=.tuple #[]) (evs:=#[Go.ConcR.mk .enable]) rfl H.f_enable (x_enable_n L) (x_enable_b L) (x_enable_x L) (x_enable_f L) (by simp[Extern.Race.none_]) (by simp[Go.ConcR.mk]) (by simp[Go.ConcR.mk]),onway_of 100 hF.live ?_⟩
  u_leave0 H.f_add rg hF
  exact Goes.stop fun _ h₁=>hT _ (rg hF h₁)
 .
  obtain⟨V,hV⟩:∃V:Int,V=(v:Int)+1:=⟨_,rfl⟩
  obtain⟨S,hS⟩:∃S:Int,S=V*KK:=⟨_,rfl⟩
  have eS:IntKind.u64.wrap ((v:Int)*KK+4294967296)=S:=by rw[IntKind.wrap_u64,hS,hV];simp only[KK];omega
  rw[←hV,←hS]
  have a1:S / 4294967296=V:=by rw[hS];simp only[KK];omega
  have b1:bits .and .u64 S 2147483648=0:=by rw[hS,hV];have:=st_flag (v+1) 0 (by omega) (by omega);simpa[KK] using this
  have b2:bits .and .u64 S 2147483647=0:=by rw[hS,hV];have:=st_waiters (v+1) 0 (by omega) (by omega);simpa[KK] using this
  have c1:IntKind.i32.wrap V=V:=by rw[IntKind.wrap_i32];omega
  have hV1:1<V:=by omega
  have hV2:V<2147483648:=by omega
  have q1:(V==1)=false:=by simp;omega
  have q2:decide (V=1)=false:=decide_eq_false (by omega)
  have q3:decide (V<0)=false:=decide_eq_false (by omega)
  have q4:decide (0<V)=true:=decide_eq_true (by omega)
  have q5:(V==0)=false:=by simp;omega
  have q6:decide (V=0)=false:=decide_eq_false (by omega)
  replace hF:=rg_set hCW hW hF (aside_setCell w₂ (stA Wg) (.int .u64 S)) ⟨_,_,hw.setSt _⟩
  refine⟨_,(stepG_add_atomic rfl rfl (by k_ne) rfl H.f_addU64 (x_addU64_n L) (x_addU64_b L) (x_addU64_x L) .u64 (x_addU64_f L) rfl rfl hw.cellSt (hw.thaw 0)).trans (by rw[eS];rfl),onway_of 400 hF.live ?_⟩
  clear hw hS hV eS
  walk_nrm
  u_op rg hF
  u_c stepG_region_end rg hF
  u_c stepG_ret' rg hF
  u_leave1 H.f_uAdd rg hF
  u_op rg hF
  u_c stepG_region_end rg hF
  u_c stepG_seq rg hF
  u_c stepG_seq rg hF
  u_reg rg hF
  u_op rg hF
  u_op rg hF
  u_op rg hF
  u_op rg hF
  u_skip rg hF
  u_skip rg hF
  u_op rg hF
  u_c stepG_region_end rg hF
  u_cond false rg hF
  u_c stepG_skip rg hF
  u_c stepG_seq rg hF
  u_reg rg hF
  u_op rg hF
  u_op rg hF
  u_op rg hF
  u_op rg hF
  u_c stepG_region_end rg hF
  u_c stepG_seq rg hF
  u_reg rg hF
  u_op rg hF
  u_op rg hF
  u_op rg hF
  u_op rg hF
  u_c stepG_region_end rg hF
  u_c stepG_seq rg hF
  u_c stepG_seq rg hF
  u_reg rg hF
  u_op rg hF
  u_op rg hF
  u_op rg hF
  u_op rg hF
  u_op rg hF
  u_op rg hF
  u_op rg hF
  u_op rg hF
  u_op rg hF
  u_op rg hF
  u_c stepG_region_end rg hF
  u_cond false rg hF
  u_c stepG_skip rg hF
  u_c stepG_seq rg hF
  u_c stepG_seq rg hF
  u_reg rg hF
  u_op rg hF
  u_op rg hF
  u_c stepG_region_end rg hF
  u_cond false rg hF
  u_c stepG_skip rg hF
  u_c stepG_seq rg hF
  u_c stepG_seq rg hF
  u_reg rg hF
  u_op rg hF
  u_op rg hF
  u_op rg hF
  u_skip rg hF
  u_skip rg hF
  u_op rg hF
  u_op rg hF
  u_skip rg hF
  u_skip rg hF
  u_skip rg hF
  u_skip rg hF
  u_op rg hF
  u_c stepG_region_end rg hF
  u_cond false rg hF
  u_c stepG_skip rg hF
  u_c stepG_seq rg hF
  u_c stepG_seq rg hF
  u_reg rg hF
  u_op rg hF
  u_op rg hF
  u_op rg hF
  u_skip rg hF
  u_skip rg hF
  u_op rg hF
  u_c stepG_region_end rg hF
  u_cond true rg hF
  u_c stepG_ret' rg hF
  refine Goes.stop (fun _ h₁=>Ren.Way.stop rfl (fun _ h₂ h₃=>?_));replace hF:=rg (rg hF h₁) ⟨h₂,h₃⟩;clear h₁ h₂ h₃
  refine⟨_,stepG_unwind_entry (v:=.tuple #[]) (evs:=#[Go.ConcR.mk .enable]) rfl H.f_enable (x_enable_n L) (x_enable_b L) (x_enable_x L) (x_enable_f L) (by simp[Extern.Race.none_]) (by simp[Go.ConcR.mk]) (by simp[Go.ConcR.mk]),onway_of 100 hF.live ?_⟩
  u_leave0 H.f_add rg hF
  exact Goes.stop fun _ h₁=>hT _ (rg hF h₁)
end
section
variable[Hidden]
section
variable{P:Program}{Ro own:Nat→Prop}
theorem onway_free{m:Bool}{k:Kind}:∀(n:Nat) {g:Goroutine} {w:World},Goes P m (Rely Ro own) DC0 (fun g w=>OnWay P Ro (fun _=>True) m k ⟨g,w,own⟩) n g w→OnWay P Ro (fun _=>True) m k ⟨g,w,own⟩:=by
 intro n
 induction n with
 |zero=>
  intro g w h
  rcases Goes.cases h with hstop|⟨_,e,_⟩
  .exact hstop w (Rely.refl _ _ _)
  .cases e
 |succ n ih=>
  intro g w h
  have hr:g.status=.running:=Goes.running (fun g w h=>OnWay.status h) w (Rely.refl _ _ _) h
  rcases Goes.cases h with hstop|⟨k',e,hstep⟩
  .exact hstop w (Rely.refl _ _ _)
  .obtain rfl:n=k':=by omega
   have key:∀w1,Rely Ro own w w1→∃g',stepG P m g w1=.go g' w1 #[]∧Goes P m (Rely Ro own) DC0 (fun g w=>OnWay P Ro (fun _=>True) m k ⟨g,w,own⟩) n g' w1:=fun w1 hr1=>by
    obtain⟨g',w',es,h1,⟨h2,h3⟩,h4⟩:=hstep w1 hr1
    subst h2 h3
    exact⟨g',h1,h4⟩
   let G:World→Goroutine:=fun w1=>match stepG P m g w1 with|.go g' _ _=>g'|_=>g
   have hG:∀w1,Rely Ro own w w1→stepG P m g w1=.go (G w1) w1 #[]∧Goes P m (Rely Ro own) DC0 (fun g w=>OnWay P Ro (fun _=>True) m k ⟨g,w,own⟩) n (G w1) w1:=fun w1 hr1=>by
    obtain⟨g',h1,h3⟩:=key w1 hr1
    have e1:G w1=g':=by simp only[G,h1]
    rw[e1]
    exact⟨h1,h3⟩
   refine Ren.Way.step hr G id (fun _=>#[]) (fun w1 hr1 _=>⟨(hG w1 hr1).1,⟨fun _=>⟨rfl,rfl⟩,Nat.le_refl _,fun _ _ _=>rfl,rfl,fun b hb=>hb,fun e he=>(by simp at he),.refl _,.refl _⟩⟩) fun w1 hr1 _=>?_
   show Ren.Way P m Ro (fun _=>True) k.quiet k.X k.Stop (G w1) w1 (more own w1 w1)
   rw[more_same]
   exact ih (hG w1 hr1).2
def Back(P:Program)(Ro own:Nat→Prop)(w0:World)(gT:Goroutine):Stops:=fun g w o=>o=own∧Rely Ro own w0 w∧OnWay P Ro (fun _=>True) true (kZ (Here gT own)) ⟨g,w,own⟩
def AtHead(L:WgLink)(Ro own:Nat→Prop)(Wg Ch:Nat)(w0:World)(c:Frame)(cs:List Frame):Stops:=fun g w o=>
 o=own∧RG Ro own L.tWg Wg Ch w0 w∧∃T:Array Value,g=G ((base L.wait).at ⟨T,[]⟩ [.code (L7 L),.inLoop (L7 L),.inBlock 0]) (c::cs)∧T.size=84∧T[0]?=some (.pointer (some ⟨Wg,0,none⟩))
end
section
variable{P:Program}{L:WgLink}{Ro own:Nat→Prop}{Wg Ch:Nat}
 {b₀:Frame} {a₀:Act} {ops₀:Array Oper} {i₀:Nat} {rest₀:List Nat} {k₀:List Item} {cs:List Frame}
set_option maxRecDepth 100000 in
set_option maxHeartbeats 16000000 in
theorem wait_start(H:WgLib P L){w0:World}(w:World)(hF:RG Ro own L.tWg Wg Ch w0 w):OnWay P Ro (Live L.tWg Wg Ch) true (kM Wg (SKd P L.tWg Wg Ch Ro (AtHead L Ro own Wg Ch w0 (b₀.at a₀ (.inRegion ops₀ (i₀::rest₀)::k₀)) cs))) ⟨G ((base L.wait).at ⟨#[.pointer (some ⟨Wg,0,none⟩)]++Array.replicate 83 undef,[]⟩ [.code (body_wait L)]) (b₀.at a₀ (.inRegion ops₀ (i₀::rest₀)::k₀)::cs),w,own⟩:=by
 lib_facts
 refine onway_of 100 hF.live ?_
 simp only[body_wait,waitFn,Option.getD_some]
 walk_nrm
 u_c stepG_seq rg hF
 u_cond true rg hF
 u_reg rg hF
 refine Goes.stop (fun _ h₁=>Ren.Way.stop rfl (fun _ h₂ h₃=>?_));replace hF:=rg (rg hF h₁) ⟨h₂,h₃⟩;clear h₁ h₂ h₃
 refine⟨_,stepG_mark0 .disable (by simp) rfl rfl (by k_ne) rfl H.f_disable (x_disable_n L) (x_disable_b L) (x_disable_x L) (x_disable_f L),onway_of 100 hF.live ?_⟩
 walk_nrm
 u_c stepG_region_end rg hF
 u_c stepG_block rg hF
 u_c stepG_loop rg hF
 refine Goes.stop (fun _ h₁=>Ren.Way.stop rfl (fun _ h₂ h₃=>?_));replace hF:=rg (rg hF h₁) ⟨h₂,h₃⟩;clear h₁ h₂ h₃
 exact⟨rfl,hF,_,rfl,by simp,by simp⟩
set_option maxRecDepth 100000 in
set_option maxHeartbeats 16000000 in
theorem wait_round(H:WgLib P L)(hCW:Ch≠Wg)(hW:¬Ro Wg∧¬own Wg){w0:World}(g:Goroutine)(w:World)(o:Nat→Prop)(h:AtHead L Ro own Wg Ch w0 (b₀.at a₀ (.inRegion ops₀ (i₀::rest₀)::k₀)) cs g w o):OnWay P Ro (Live L.tWg Wg Ch) true (kM Wg (SW1 P L.tWg Wg Ch Ro (AtHead L Ro own Wg Ch w0 (b₀.at a₀ (.inRegion ops₀ (i₀::rest₀)::k₀)) cs) (Back P Ro own w0 (G (b₀.at (a₀.put ((ops₀[i₀]?).bind (·.dst)) (.tuple #[])) (.inRegion ops₀ rest₀::k₀)) cs)))) ⟨g,w,o⟩:=by
 lib_facts
 obtain⟨rfl,hF,T,rfl,hT84,t0⟩:=h
 obtain⟨v0,v1,v2,v3,v4,v5,v6,v7,v8,v9,v10,v11,v12,v13,v14,v15,v16,v17,v18,v19,v20,v21,v22,v23,v24,v25,v26,v27,v28,v29,v30,v31,v32,v33,v34,v35,v36,v37,v38,v39,v40,v41,v42,v43,v44,v45,v46,v47,v48,v49,v50,v51,v52,v53,v54,v55,v56,v57,v58,v59,v60,v61,v62,v63,v64,v65,v66,v67,v68,v69,v70,v71,v72,v73,v74,v75,v76,v77,v78,v79,v80,v81,v82,v83,rfl⟩:=array84 T hT84
 simp only[List.getElem?_toArray,List.getElem?_cons_zero,Option.some.injEq] at t0
 subst t0
 refine onway_of 100 hF.live ?_
 simp only[L7,body_wait,waitFn,Option.getD_some]
 u_c stepG_block rg hF
 u_c stepG_seq rg hF
 u_reg rg hF
 u_op rg hF
 u_op rg hF
 u_op rg hF
 u_call H.f_uLoad (nm_uLoad L) uLoadFn rg hF
 u_c stepG_seq rg hF
 u_reg rg hF
 u_op rg hF
 u_c stepG_region_end rg hF
 u_c stepG_seq rg hF
 u_reg rg hF
 u_op rg hF
 u_op rg hF
 u_op rg hF
 refine Goes.stop (fun _ h₁=>Ren.Way.stop rfl (fun _ h₂ h₃=>?_));replace hF:=rg (rg hF h₁) ⟨h₂,h₃⟩;clear h₁ h₂ h₃
 refine fun v hv hw=>?_
 rename_i w₁
 rcases Nat.eq_zero_or_pos v with rfl|hvp
 .
  replace hw:WgAt L.tWg Wg w₁ 0 0:=by simpa using hw
  refine⟨_,stepG_load_atomic (v:=0) rfl rfl (by k_ne) rfl H.f_loadU64 (x_loadU64_n L) (x_loadU64_b L) (x_loadU64_x L) .u64 (x_loadU64_f L) rfl hw.cellSt,fun _=>onway_of 100 hF.live ?_,fun h=>absurd rfl h⟩
  clear hw
  walk_nrm
  u_op rg hF
  u_c stepG_region_end rg hF
  u_c stepG_ret' rg hF
  u_leave1 H.f_uLoad rg hF
  u_op rg hF
  u_c stepG_region_end rg hF
  u_c stepG_seq rg hF
  u_reg rg hF
  u_op rg hF
  u_op rg hF
  u_op rg hF
  u_op rg hF
  u_c stepG_region_end rg hF
  u_c stepG_seq rg hF
  u_reg rg hF
  u_op rg hF
  u_op rg hF
  u_op rg hF
  u_op rg hF
  u_c stepG_region_end rg hF
  u_c stepG_seq rg hF
  u_c stepG_seq rg hF
  u_reg rg hF
  u_op rg hF
  u_op rg hF
  u_c stepG_region_end rg hF
  u_cond true rg hF
  u_c stepG_seq rg hF
  u_cond true rg hF
  u_c stepG_seq rg hF
  u_reg rg hF
  refine Goes.stop (fun _ h₁=>Ren.Way.stop rfl (fun _ h₂ h₃=>?_));replace hF:=rg (rg hF h₁) ⟨h₂,h₃⟩;clear h₁ h₂ h₃
  refine⟨_,stepG_mark0 .enable (by simp) rfl rfl (by k_ne) rfl H.f_enable (x_enable_n L) (x_enable_b L) (x_enable_x L) (x_enable_f L),onway_of 100 hF.live ?_⟩
  walk_nrm
  u_c stepG_region_end rg hF
  u_reg rg hF
  u_op rg hF
  u_conv H.underlying_tWgP H.room_tWg (WgLive.cell0 hF.live.1).choose_spec rg hF
  refine Goes.stop (fun _ h₁=>Ren.Way.stop rfl (fun _ h₂ h₃=>?_));replace hF:=rg (rg hF h₁) ⟨h₂,h₃⟩;clear h₁ h₂ h₃
  refine⟨_,stepG_markAt .acquire (by simp) rfl rfl (by k_ne) rfl H.f_acquire (x_acquire_n L) (x_acquire_b L) (x_acquire_x L) (x_acquire_f L) (by simp[Act.eval,stA]),rfl,rfl,hF.rely,onway_free 100 ?_⟩
  replace hF:=hF.rely
  walk_nrm
  u_c stepG_region_end Rely.trans hF
  u_c stepG_seq Rely.trans hF
  u_c stepG_seq Rely.trans hF
  u_reg Rely.trans hF
  u_op Rely.trans hF
  u_op Rely.trans hF
  u_op Rely.trans hF
  u_op Rely.trans hF
  u_op Rely.trans hF
  u_op Rely.trans hF
  u_op Rely.trans hF
  u_op Rely.trans hF
  u_skip Rely.trans hF
  u_skip Rely.trans hF
  u_op Rely.trans hF
  u_c stepG_region_end Rely.trans hF
  u_cond false Rely.trans hF
  u_c stepG_skip Rely.trans hF
  u_c stepG_ret' Rely.trans hF
  u_leave0 H.f_wait Rely.trans hF
  exact Goes.stop fun _ _=>Ren.Way.stop rfl fun _ _ _=>⟨rfl,rfl⟩
 .
  obtain⟨S,hS⟩:∃S:Int,(v:Int)*KK=S:=⟨_,rfl⟩
  have a1:S / 4294967296=(v:Int):=by rw[←hS];simp only[KK];omega
  have b1:bits .and .u64 S 2147483648=0:=by rw[←hS];have:=st_flag v 0 (by omega) (by omega);simpa[KK] using this
  have b2:bits .and .u64 S 2147483647=0:=by rw[←hS];have:=st_waiters v 0 (by omega) (by omega);simpa[KK] using this
  have c1:IntKind.i32.wrap (v:Int)=(v:Int):=by rw[IntKind.wrap_i32];omega
  have w1:IntKind.u64.wrap (S+1)=S+1:=by rw[IntKind.wrap_u64,←hS];simp only[KK];omega
  have q3:decide ((v:Int)<0)=false:=decide_eq_false (by omega)
  have q4:decide (0<(v:Int))=true:=decide_eq_true (by omega)
  have q5:((v:Int)==0)=false:=by simp;omega
  have q6:decide ((v:Int)=0)=false:=decide_eq_false (by omega)
  rw[hS] at hw
  refine⟨_,stepG_load_atomic (v:=S) rfl rfl (by k_ne) rfl H.f_loadU64 (x_loadU64_n L) (x_loadU64_b L) (x_loadU64_x L) .u64 (x_loadU64_f L) rfl hw.cellSt,fun h0=>absurd h0 (by omega),fun _=>onway_of 200 hF.live ?_⟩
  clear hw
  walk_nrm
  u_op rg hF
  u_c stepG_region_end rg hF
  u_c stepG_ret' rg hF
  u_leave1 H.f_uLoad rg hF
  u_op rg hF
  u_c stepG_region_end rg hF
  u_c stepG_seq rg hF
  u_reg rg hF
  u_op rg hF
  u_op rg hF
  u_op rg hF
  u_op rg hF
  u_c stepG_region_end rg hF
  u_c stepG_seq rg hF
  u_reg rg hF
  u_op rg hF
  u_op rg hF
  u_op rg hF
  u_op rg hF
  u_c stepG_region_end rg hF
  u_c stepG_seq rg hF
  u_c stepG_seq rg hF
  u_reg rg hF
  u_op rg hF
  u_op rg hF
  u_c stepG_region_end rg hF
  u_cond false rg hF
  u_c stepG_skip rg hF
  u_c stepG_seq rg hF
  u_reg rg hF
  u_op rg hF
  u_op rg hF
  u_op rg hF
  u_op rg hF
  u_op rg hF
  u_op rg hF
  u_call H.f_uCas (nm_uCas L) uCasFn rg hF
  u_c stepG_seq rg hF
  u_reg rg hF
  u_op rg hF
  u_c stepG_region_end rg hF
  u_c stepG_seq rg hF
  u_reg rg hF
  u_op rg hF
  u_op rg hF
  u_op rg hF
  u_op rg hF
  u_op rg hF
  refine Goes.stop (fun _ h₁=>Ren.Way.stop rfl (fun _ h₂ h₃=>?_));replace hF:=rg (rg hF h₁) ⟨h₂,h₃⟩;clear h₁ h₂ h₃
  rename_i w₂
  refine fun v' hv' hw=>⟨fun e=>?_,fun e=>?_⟩
  .
   subst e
   rw[hS] at hw⊢
   replace hF:=rg_set hCW hW hF (aside_setCell w₂ (stA Wg) (.int .u64 (S+1))) ⟨_,_,hw.setSt _⟩
   refine⟨_,(stepG_cas_hit (v:=S) (n:=S+1) rfl rfl (by k_ne) rfl H.f_casU64 (x_casU64_n L) (x_casU64_b L) (x_casU64_x L) .u64 (x_casU64_f L) rfl rfl rfl hw.cellSt (hw.thaw 0)).trans (by rfl),onway_of 200 hF.live ?_⟩
   clear hw
   walk_nrm
   u_op rg hF
   u_c stepG_region_end rg hF
   u_c stepG_ret' rg hF
   u_leave1 H.f_uCas rg hF
   u_c stepG_region_end rg hF
   u_cond true rg hF
   u_c stepG_seq rg hF
   u_c stepG_seq rg hF
   u_reg rg hF
   u_op rg hF
   u_op rg hF
   u_op rg hF
   u_op rg hF
   u_c stepG_region_end rg hF
   u_cond true rg hF
   u_reg rg hF
   u_op rg hF
   u_op rg hF
   u_op rg hF
   u_conv H.underlying_tPU32 H.room_tU32 (WgLive.cell1 hF.live.1).choose_spec rg hF
   refine Goes.stop (fun _ h₁=>onway_said (e:=⟨.mark (.write ⟨Wg,1,none⟩),false,true⟩) rfl (.inl ⟨⟨Wg,1,none⟩,.inr rfl,rfl⟩) rfl (fun _ _=>stepG_markAt .write (by simp) rfl rfl (by k_ne) rfl H.f_raceWrite (x_raceWrite_n L) (x_raceWrite_b L) (x_raceWrite_x L) (x_raceWrite_f L) (by simp[Act.eval])) (fun _ h₂=>?_))
   replace hF:=rg (rg hF h₁) h₂
   clear h₁ h₂
   refine onway_of 200 hF.live ?_
   walk_nrm
   u_c stepG_region_end rg hF
   u_c stepG_seq rg hF
   u_reg rg hF
   u_op rg hF
   u_c stepG_region_end rg hF
   u_c stepG_seq rg hF
   u_c stepG_seq rg hF
   u_reg rg hF
   u_op rg hF
   u_op rg hF
   u_op rg hF
   u_op rg hF
   u_skip rg hF
   u_op rg hF
   u_c stepG_region_end rg hF
   u_cond false rg hF
   u_c stepG_skip rg hF
   u_c stepG_seq rg hF
   u_reg rg hF
   u_op rg hF
   u_op rg hF
   u_op rg hF
   u_op rg hF
   refine Goes.stop (fun _ h₁=>Ren.Way.stop rfl (fun _ h₂ h₃=>?_));replace hF:=rg (rg hF h₁) ⟨h₂,h₃⟩;clear h₁ h₂ h₃
   rename_i w₃
   refine⟨rfl,rfl,fun⟨st,hw⟩=>stepG_semacquire_wait rfl rfl rfl H.f_semacquire (x_semacquire_n L) (x_semacquire_b L) (x_semacquire_x L) (x_semacquire_f L) (by simp[Act.eval,smA]) hw.cellSm,fun hf=>?_⟩
   replace hF:=rg_set hCW hW hF (aside_setCell w₃ (smA Wg) (.int .u32 0)) ⟨_,_,hf.setSm 0⟩
   refine⟨_,(stepG_semacquire (n:=1) rfl rfl (by k_ne) rfl H.f_semacquire (x_semacquire_n L) (x_semacquire_b L) (x_semacquire_x L) (x_semacquire_f L) (by simp[Act.eval,smA]) hf.cellSm (by k_ne) (hf.thaw 1)).trans (by rfl),onway_of 200 hF.live ?_⟩
   clear hf
   walk_nrm
   u_c stepG_region_end rg hF
   u_c stepG_seq rg hF
   u_reg rg hF
   u_op rg hF
   u_op rg hF
   u_op rg hF
   u_call H.f_uLoad (nm_uLoad L) uLoadFn rg hF
   u_c stepG_seq rg hF
   u_reg rg hF
   u_op rg hF
   u_c stepG_region_end rg hF
   u_c stepG_seq rg hF
   u_reg rg hF
   u_op rg hF
   u_op rg hF
   u_op rg hF
   refine Goes.stop (fun _ h₁=>Ren.Way.stop rfl (fun _ h₂ h₃=>?_));replace hF:=rg (rg hF h₁) ⟨h₂,h₃⟩;clear h₁ h₂ h₃
   refine fun hw=>⟨_,stepG_load_atomic (v:=0) rfl rfl (by k_ne) rfl H.f_loadU64 (x_loadU64_n L) (x_loadU64_b L) (x_loadU64_x L) .u64 (x_loadU64_f L) rfl hw.cellSt,onway_of 200 hF.live ?_⟩
   clear hw
   walk_nrm
   u_op rg hF
   u_c stepG_region_end rg hF
   u_c stepG_ret' rg hF
   u_leave1 H.f_uLoad rg hF
   u_op rg hF
   u_op rg hF
   u_c stepG_region_end rg hF
   u_c stepG_seq rg hF
   u_cond true rg hF
   u_c stepG_seq rg hF
   u_reg rg hF
   refine Goes.stop (fun _ h₁=>Ren.Way.stop rfl (fun _ h₂ h₃=>?_));replace hF:=rg (rg hF h₁) ⟨h₂,h₃⟩;clear h₁ h₂ h₃
   refine⟨_,stepG_mark0 .enable (by simp) rfl rfl (by k_ne) rfl H.f_enable (x_enable_n L) (x_enable_b L) (x_enable_x L) (x_enable_f L),onway_of 100 hF.live ?_⟩
   walk_nrm
   u_c stepG_region_end rg hF
   u_reg rg hF
   u_op rg hF
   u_conv H.underlying_tWgP H.room_tWg (WgLive.cell0 hF.live.1).choose_spec rg hF
   refine Goes.stop (fun _ h₁=>Ren.Way.stop rfl (fun _ h₂ h₃=>?_));replace hF:=rg (rg hF h₁) ⟨h₂,h₃⟩;clear h₁ h₂ h₃
   refine⟨_,stepG_markAt .acquire (by simp) rfl rfl (by k_ne) rfl H.f_acquire (x_acquire_n L) (x_acquire_b L) (x_acquire_x L) (x_acquire_f L) (by simp[Act.eval,stA]),rfl,rfl,hF.rely,onway_free 100 ?_⟩
   replace hF:=hF.rely
   walk_nrm
   u_c stepG_region_end Rely.trans hF
   u_c stepG_seq Rely.trans hF
   u_c stepG_seq Rely.trans hF
   u_reg Rely.trans hF
   u_op Rely.trans hF
   u_c stepG_region_end Rely.trans hF
   u_cond false Rely.trans hF
   u_c stepG_skip Rely.trans hF
   u_c stepG_ret' Rely.trans hF
   u_leave0 H.f_wait Rely.trans hF
   exact Goes.stop fun _ _=>Ren.Way.stop rfl fun _ _ _=>⟨rfl,rfl⟩
  .
   refine⟨_,stepG_cas_miss (v:=(v':Int)*KK) (old:=S) (n:=S+1) rfl rfl (by k_ne) rfl H.f_casU64 (x_casU64_n L) (x_casU64_b L) (x_casU64_x L) .u64 (x_casU64_f L) rfl rfl rfl hw.cellSt (hw.thaw 0) (by rw[←hS];simp only[KK];omega),onway_of 100 hF.live ?_⟩
   clear hw
   walk_nrm
   u_op rg hF
   u_c stepG_region_end rg hF
   u_c stepG_ret' rg hF
   u_leave1 H.f_uCas rg hF
   u_c stepG_region_end rg hF
   u_cond false rg hF
   u_c stepG_skip rg hF
   u_c stepG_inBlock rg hF
   u_c stepG_inLoop rg hF
   refine Goes.stop (fun _ h₁=>Ren.Way.stop rfl (fun _ h₂ h₃=>?_));replace hF:=rg (rg hF h₁) ⟨h₂,h₃⟩;clear h₁ h₂ h₃
   exact⟨rfl,hF,_,rfl,by simp,by simp⟩
end
end
section
variable[Spc][Hidden]{P:Program}{S:FuncId→Prop}{L:WgLink}{Ro Hid:Nat→Prop}{Wg Ch:Nat}
def Head(P:Program)(S:FuncId→Prop)(L:WgLink)(Ro Hid:Nat→Prop)(Wg Ch:Nat)(w:World)(n0:Nat)(f:Nat→Nat)(End:Goroutine→World→Prop):Stops:=fun g1 w1 own1=>
 ∃(w0:World) (b₀:Frame) (a₀:Act) (ops₀:Array Oper) (i₀:Nat) (rest₀:List Nat) (k₀:List Item) (cs:List Frame),
  AtHead L Ro own1 Wg Ch w0 (b₀.at a₀ (.inRegion ops₀ (i₀::rest₀)::k₀)) cs g1 w1 own1∧(¬Ro Wg∧¬own1 Wg) ∧
  ∃(f':Nat→Nat) (g':Goroutine) (v':World),End g' v'∧Priv P S Ro own1 Hid f' g' v' w0∧G (b₀.at (a₀.put ((ops₀[i₀]?).bind (·.dst)) (.tuple #[])) (.inRegion ops₀ rest₀::k₀)) cs=gorS f' [] g' ∧
   Rely Ro (fun _=>False) w w0∧(∀i,i<n0→f' i=f i)∧n0≤v'.heap.size
theorem head_round(H:WgLib P L)(hCW:Ch≠Wg){w:World}{n0:Nat}{f:Nat→Nat}{End:Goroutine→World→Prop}(g1:Goroutine)(w1:World)(own1:Nat→Prop)(h:Head P S L Ro Hid Wg Ch w n0 f End g1 w1 own1):OnWay P Ro (Live L.tWg Wg Ch) true (kM Wg (SW1 P L.tWg Wg Ch Ro (Head P S L Ro Hid Wg Ch w n0 f End) (FinAt P S Ro Hid w n0 f End))) ⟨g1,w1,own1⟩:=by
 obtain⟨w0,b₀,a₀,ops₀,i₀,rest₀,k₀,cs,hA,hW,f',g',v',hE,hp,e,hr,hag,hn⟩:=h
 refine monoM (wait_round H hCW hW g1 w1 own1 hA) fun g2 w2 own2 hs=>SW1.mono (fun g w o ha=>?_) (fun g w o hb=>?_) hs
 .obtain rfl:=ha.1
  exact⟨w0,b₀,a₀,ops₀,i₀,rest₀,k₀,cs,ha,hW,f',g',v',hE,hp,e,hr,hag,hn⟩
 .obtain⟨rfl,hb1,hb2⟩:=hb
  obtain⟨hp2,_,e2⟩:=hp.rely hb1 []
  refine⟨rebase f' v' w,g',v',hE,hp2,?_,⟨Nat.le_trans hr.size hb1.size,fun b hb ho=>?_,hr.cells.trans hb1.cells,hr.chans.trans hb1.chans⟩,fun i hi=>(rebase_lt (Nat.lt_of_lt_of_le hi hn)).trans (hag i hi),hn⟩
  .rw[←e2,←e];exact hb2
  .rcases ho with ho|ho
   .exact(hb1.keep b (Nat.lt_of_lt_of_le hb hr.size) (.inl ho)).trans (hr.keep b hb (.inl ho))
   .exact ho.elim
theorem head_start(H:WgLib P L){w w0 w1:World}{n0:Nat}{f:Nat→Nat}{End:Goroutine→World→Prop}{own1:Nat→Prop}{b₀:Frame}{a₀:Act}{ops₀:Array Oper}{i₀:Nat}{rest₀:List Nat}{k₀:List Item}{cs:List Frame}(hF:RG Ro own1 L.tWg Wg Ch w0 w1)(hW:¬Ro Wg∧¬own1 Wg){f':Nat→Nat}{g':Goroutine}{v':World}(hE:End g' v')(hp:Priv P S Ro own1 Hid f' g' v' w0)(e:G (b₀.at (a₀.put ((ops₀[i₀]?).bind (·.dst)) (.tuple #[])) (.inRegion ops₀ rest₀::k₀)) cs=gorS f' [] g')(hr:Rely Ro (fun _=>False) w w0)(hag:∀i,i<n0→f' i=f i)(hn:n0≤v'.heap.size):OnWay P Ro (Live L.tWg Wg Ch) true (kM Wg (SKd P L.tWg Wg Ch Ro (Head P S L Ro Hid Wg Ch w n0 f End))) ⟨G ((base L.wait).at ⟨#[.pointer (some ⟨Wg,0,none⟩)]++Array.replicate 83 undef,[]⟩ [.code (body_wait L)]) (b₀.at a₀ (.inRegion ops₀ (i₀::rest₀)::k₀)::cs),w1,own1⟩:=by
 refine monoM (wait_start H w1 hF) fun g2 w2 own2 hs=>SKd.mono (fun g w o ha=>?_) hs
 obtain rfl:=ha.1
 exact⟨w0,b₀,a₀,ops₀,i₀,rest₀,k₀,cs,ha,hW,f',g',v',hE,hp,e,hr,hag,hn⟩
end
end Go.Crew
