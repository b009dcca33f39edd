import Derived.Conc.WgGenN3
import Derived.Test.YtjilljfmaknihaaGreatA21
set_option linter.all false
set_option maxHeartbeats 64000000
set_option maxRecDepth 100000
namespace Go
def bg:=@Go.Conc.stepG_region_end
def aQ:=@Go.Conc.stepG_seq
def jb:=@Go.Conc.stepG_skip
def qF:=@Go.Conc.stepG_ret'
def DN:=@Go.IntKind.wrap_u64
def JP:=@Go.Conc.stepG_add_atomic
def UF:=@Go.Conc.stepG_load_atomic
def UH:=@Go.IntKind.wrap_i32
def JL:=@Go.ConcR.Gen.x_addU64_x
def JO:=@Go.ConcR.Gen.x_addU64_n
def JK:=@Go.ConcR.Gen.x_addU64_f
def JM:=@Go.ConcR.Gen.x_addU64_b
def PK:=@Go.Conc.stepG_markAt
def PL:=@Go.Conc.stepG_mark0
def UG:=@Go.Conc.stepG_block
end Go
namespace Go.Crew
open Go.Conc Go.ConcN Go.Ren Go.RowKit Go.Conc.Lib Go.ConcR.Gen
open Go.ConcR (KK wgBlock WgAt stA smA rd wr mk DC0)
section
variable[aX]
structure RG(Ro own:Nat->Prop)(ty:aZ)(Wg Ch:Nat)(w w1:ay):Prop where
 rely:bP Ro own w w1
 live:Live ty Wg Ch w1
theorem rg{Ro own ty Wg Ch w0 w w1}(h:RG Ro own ty Wg Ch w0 w)(r:RG Ro own ty Wg Ch w w1):RG Ro own ty Wg Ch w0 w1:=⟨h.rely.trans r.rely,r.live⟩
theorem I9{Ro own ty Wg Ch w0 w w1}(d:Ch≠Wg)(f:¬Ro Wg/\¬own Wg)(h:RG Ro own ty Wg Ch w0 w)(a:Aside Wg w w1)(hl:WgLive ty Wg w1):RG Ro own ty Wg Ch w0 w1:=⟨h.rely.trans ⟨by rw[a.size];exact aA _,fun b _ ho=>a.block b fun e=>by subst e;exact ho.elim f.1 f.2,by have⟨_,_,h1⟩:=h.live.1;have⟨_,_,h2⟩:=hl;exact SQ a h1 h2,by have⟨_,_,h1⟩:=h.live.1;exact MZ a h1⟩,hl,by have⟨c,b,s,r,tm,h1⟩:=h.live.2;exact⟨c,b,s,r,tm,(a.block Ch d).trans h1⟩⟩
theorem zO(own)(w):more own w w=own:=by
 funext b;simp only[more,eq_iff_iff];constructor
 .rintro(h|⟨h1,h2⟩)
  .exact h
  omega
 exact .inl
section
variable{P:aH}{m:Bool}{ty:aZ}{Wg Ch:Nat}{Ro:Nat->Prop}{own:Nat->Prop}
theorem eH{k}:∀(n) {g w},Live ty Wg Ch w->Goes P m (RG Ro own ty Wg Ch) DC0 (fun g w=>bu P Ro (Live ty Wg Ch) m k ⟨g,w,own⟩) n g w->bu P Ro (Live ty Wg Ch) m k ⟨g,w,own⟩:=by
 intro n;induction n with
 |zero=>
  intro g w hl h;rcases Goes.cases h with c|⟨_,e,_⟩
  .exact c w ⟨bP.refl _ _ _,hl⟩
  cases e
 |succ n l=>
  intro g w hl h;have hr:=Goes.running (fun g w h=>bu.status h) w ⟨bP.refl _ _ _,hl⟩ h;rcases Goes.cases h with c|⟨k',e,f⟩
  .exact c w ⟨bP.refl _ _ _,hl⟩
  obtain rfl:n=k':=by omega
  have key:∀w1,bP Ro own w w1->Live ty Wg Ch w1->∃g',stepG P m g w1=.go g' w1 #[]/\Goes P m _ DC0 (fun g w=>bu P Ro _ m k _) n g' w1:=fun w1 d a=>by have⟨g',w',es,h1,⟨h2,i⟩,o⟩:=f w1 ⟨d,a⟩;subst h2 i;exact⟨g',h1,o⟩
  let G:ay->dD:=fun w1=>match stepG P m g w1 with|.go g' _ _=>g'|_=>g
  have j:∀w1,bP Ro own w w1->Live ty Wg Ch w1->stepG P m g w1=.go (G w1) w1 #[]/\Goes P m _ DC0 (fun g w=>bu P Ro _ m k _) n (G w1) w1:=fun w1 d a=>by
   have⟨g',h1,i⟩:=key w1 d a;have p:G w1=g':=by simp[G,h1]
   rw[p];exact⟨h1,i⟩
  refine Ren.Way.step hr G id (fun _=>#[]) (fun w1 d a=>⟨(j w1 d a).1,⟨fun _=>⟨rfl,rfl⟩,aA _,fun _ _ _=>rfl,rfl,fun b hb=>hb,fun e he=>(by simp at he),.refl _,.refl _⟩⟩) fun w1 d a=>?_;show Ren.Way P m Ro _ k.quiet k.X k.Stop (G w1) w1 (more own w1 w1);rw[zO];exact l a (j w1 d a).2
theorem NR{k g g' w e}(f:k.quiet=false)(i:k.X e)(hs:g.status=.running)(h:∀w1,RG Ro own ty Wg Ch w w1->stepG P m g w1=.go g' w1 #[e])(h':∀w1,RG Ro own ty Wg Ch w w1->bu P Ro (Live ty Wg Ch) m k ⟨g',w1,own⟩):bu P Ro (Live ty Wg Ch) m k ⟨g,w,own⟩:=by
 refine Ren.Way.step hs (fun _=>g') id (fun _=>#[e]) (fun w1 a c=>⟨h w1 ⟨a,c⟩,⟨fun d=>absurd (f.symm.trans d) (by decide),aA _,fun _ _ _=>rfl,rfl,fun b hb=>hb,fun e' he=>.inr ?_,.refl _,.refl _⟩⟩) fun w1 a c=>?_
 .simp at he;subst he;exact i
 show Ren.Way P m Ro _ k.quiet k.X k.Stop g' w1 (more own w1 w1);rw[zO];exact h' w1 ⟨a,c⟩
end
end
open Go.ConcN.Gen
section
variable[aX]{P:aH}{L:WgLink}{Ro own:Nat->Prop}{Wg Ch:Nat}{pay:Nat->aB ae}{i:Nat}{Next:Rank->Prop}
 {b₀:aC} {a₀:Act} {ops₀:Array bn} {i₀:Nat} {rest₀:List Nat} {k₀:List ig} {cs:List aC}
theorem add_pos(H:WgLib P L)(o:Ch≠Wg)(p:¬Ro Wg/\¬own Wg){w0}(h:∀w,RG Ro own L.tWg Wg Ch w0 w->bu P Ro (Live L.tWg Wg Ch) true (kM Wg (SGo P L.tWg Wg Ch Ro pay i Next)) ⟨G (b₀.at (a₀.put ((ops₀[i₀]?).bind (·.dst)) (.tuple #[])) (.inRegion ops₀ rest₀::k₀)) cs,w,own⟩)(w)(a:RG Ro own L.tWg Wg Ch w0 w):bu P Ro (Live L.tWg Wg Ch) true (kM Wg (afb P L.tWg Wg Ch Ro pay i Next)) ⟨G ((base L.add).at ⟨#[.pointer (some ⟨Wg,0,none⟩),.int .i64 1]++Array.replicate 115 undef,[]⟩ [.code (body_add L)]) (b₀.at a₀ (.inRegion ops₀ (i₀::rest₀)::k₀)::cs),w,own⟩:=by
 lib_facts;refine eH 100 a.live ?_;simp[body_add,addFn,Option.getD_some];walk_nrm;u_c aQ rg a;u_cond true rg a;u_c aQ rg a;u_c aQ rg a;u_reg rg a;u_op rg a;u_op rg a;u_c bg rg a;u_cond false rg a;u_c jb rg a;u_c aQ rg a;u_reg rg a;refine gG (fun _ b=>Ren.Way.stop rfl (fun _ c d=>?_));replace a:=rg (rg a b) ⟨c,d⟩;clear b c d;refine⟨_,PL .disable (by simp) rfl rfl (by k_ne) rfl H.f_disable (x_disable_n L) (x_disable_b L) (x_disable_x L) (x_disable_f L),eH 100 a.live ?_⟩;walk_nrm;u_c bg rg a;u_reg rg a;u_defer rg a;u_c bg rg a;u_c aQ rg a;u_reg rg a;u_op rg a;u_c bg rg a;u_c aQ rg a;u_c aQ rg a;u_reg rg a;u_bub rg a;u_c bg rg a;u_cond false rg a;u_c jb rg a;u_c aQ rg a;u_reg rg a;u_op rg a;u_op rg a;u_op rg a;u_op rg a;u_op rg a;u_op rg a;u_call H.f_uAdd (nm_uAdd L) uAddFn rg a;u_c aQ rg a;u_reg rg a;u_op rg a;u_c bg rg a;u_c aQ rg a;u_reg rg a;u_op rg a;u_op rg a;u_op rg a;u_op rg a;refine gG (fun _ b=>Ren.Way.stop rfl (fun _ c d=>?_));replace a:=rg (rg a b) ⟨c,d⟩;clear b c d;refine fun v hv hw=>?_;rename_i f;rcases uu v with rfl|k
 .
  replace hw:WgAt L.tWg Wg f 0 0:=by simpa using hw
  have z:(((0:Nat):Int)+1)*KK=KK:=by simp
  rw[z];have n:IntKind.u64.wrap (0+4294967296)=KK:=by decide
  replace a:=I9 o p a (qG f (stA Wg) (.int .u64 KK)) ⟨_,_,hw.setSt _⟩;refine⟨_,(JP rfl rfl (by k_ne) rfl H.f_addU64 (JO L) (JM L) (JL L) .u64 (JK L) rfl rfl hw.cellSt (hw.thaw 0)).trans (by rw[n];rfl),eH 400 a.live ?_⟩;simp only[KK] at a⊢;walk_nrm;u_op rg a;u_c bg rg a;u_c qF rg a;u_leave1 H.f_uAdd rg a;u_op rg a;u_c bg rg a;u_c aQ rg a;u_c aQ rg a;u_reg rg a;u_op rg a;u_op rg a;u_op rg a;u_op rg a;u_skip rg a;u_skip rg a;u_op rg a;u_c bg rg a;u_cond false rg a;u_c jb rg a;u_c aQ rg a;u_reg rg a;u_op rg a;u_op rg a;u_op rg a;u_op rg a;u_c bg rg a;u_c aQ rg a;u_reg rg a;u_op rg a;u_op rg a;u_op rg a;u_op rg a;u_c bg rg a;u_c aQ rg a;u_c aQ rg a;u_reg rg a;u_op rg a;u_op rg a;u_op rg a;u_op rg a;u_op rg a;u_op rg a;u_op rg a;u_op rg a;u_op rg a;u_op rg a;u_c bg rg a;u_cond true rg a;u_reg rg a;u_op rg a;u_op rg a;u_op rg a;u_conv H.underlying_tPU32 H.room_tU32 (WgLive.cell1 a.live.1).choose_spec rg a
  refine gG (fun _ b=>NR (e:=⟨.mark (.read ⟨Wg,1,none⟩),false,true⟩) rfl (.inl ⟨⟨Wg,1,none⟩,.inl rfl,rfl⟩) rfl (fun _ _=>PK .read (by simp) rfl rfl (by k_ne) rfl H.f_raceRead (x_raceRead_n L) (x_raceRead_b L) (x_raceRead_x L) (x_raceRead_f L) (by simp[Act.eval])) (fun _ c=>?_));replace a:=rg (rg a b) c;clear b c;refine eH 400 a.live ?_;walk_nrm;u_c bg rg a;u_c aQ rg a;u_c aQ rg a;u_reg rg a;u_op rg a;u_op rg a;u_c bg rg a;u_cond false rg a;u_c jb rg a;u_c aQ rg a;u_c aQ rg a;u_reg rg a;u_op rg a;u_op rg a;u_op rg a;u_skip rg a;u_skip rg a;u_op rg a;u_op rg a;u_skip rg a;u_skip rg a;u_skip rg a;u_skip rg a;u_op rg a;u_c bg rg a;u_cond false rg a;u_c jb rg a;u_c aQ rg a;u_c aQ rg a;u_reg rg a;u_op rg a;u_op rg a;u_op rg a;u_skip rg a;u_skip rg a;u_op rg a;u_c bg rg a;u_cond true rg a;u_c qF rg a;refine gG (fun _ b=>Ren.Way.stop rfl (fun _ c d=>?_));replace a:=rg (rg a b) ⟨c,d⟩;clear b c d;refine⟨_,stepG_unwind_entry (v:=.tuple #[]) (evs:=#[Go.ConcR.mk .enable]) rfl H.f_enable (x_enable_n L) (x_enable_b L) (x_enable_x L) (x_enable_f L) (by simp[Extern.Race.none_]) (by simp[Go.ConcR.mk]) (by simp[Go.ConcR.mk]),eH 100 a.live ?_⟩;u_leave0 H.f_add rg a;exact gG fun _ b=>h _ (rg a b)
 
 obtain⟨V,g⟩:∃V:Int,V=(v:Int)+1:=⟨_,rfl⟩;obtain⟨S,hS⟩:∃S:Int,S=V*KK:=⟨_,rfl⟩;have j:IntKind.u64.wrap ((v:Int)*KK+4294967296)=S:=by rw[DN,hS,g];simp only[KK];omega
 rw[<-g,<-hS];have a1:S / 4294967296=V:=by rw[hS];simp only[KK];omega
 have b1:bits .and .u64 S 2147483648=0:=by rw[hS,g];have:=st_flag (v+1) 0 (by omega) (by omega);simpa[KK] using this
 have b2:bits .and .u64 S 2147483647=0:=by rw[hS,g];have:=st_waiters (v+1) 0 (by omega) (by omega);simpa[KK] using this
 have c1:IntKind.i32.wrap V=V:=by rw[UH];omega
 have m:1<V:=by omega
 have l:V<2147483648:=by omega
 have q1:(V==1)=false:=by simp;omega
 have q2:decide (V=1)=false:=yS (by omega);have q3:decide (V<0)=false:=yS (by omega);have q4:decide (0<V)=true:=rU (by omega);have q5:(V==0)=false:=by simp;omega
 have q6:decide (V=0)=false:=yS (by omega);replace a:=I9 o p a (qG f (stA Wg) (.int .u64 S)) ⟨_,_,hw.setSt _⟩;refine⟨_,(JP rfl rfl (by k_ne) rfl H.f_addU64 (JO L) (JM L) (JL L) .u64 (JK L) rfl rfl hw.cellSt (hw.thaw 0)).trans (by rw[j];rfl),eH 400 a.live ?_⟩;clear hw hS g j;walk_nrm;u_op rg a;u_c bg rg a;u_c qF rg a;u_leave1 H.f_uAdd rg a;u_op rg a;u_c bg rg a;u_c aQ rg a;u_c aQ rg a;u_reg rg a;u_op rg a;u_op rg a;u_op rg a;u_op rg a;u_skip rg a;u_skip rg a;u_op rg a;u_c bg rg a;u_cond false rg a;u_c jb rg a;u_c aQ rg a;u_reg rg a;u_op rg a;u_op rg a;u_op rg a;u_op rg a;u_c bg rg a;u_c aQ rg a;u_reg rg a;u_op rg a;u_op rg a;u_op rg a;u_op rg a;u_c bg rg a;u_c aQ rg a;u_c aQ rg a;u_reg rg a;u_op rg a;u_op rg a;u_op rg a;u_op rg a;u_op rg a;u_op rg a;u_op rg a;u_op rg a;u_op rg a;u_op rg a;u_c bg rg a;u_cond false rg a;u_c jb rg a;u_c aQ rg a;u_c aQ rg a;u_reg rg a;u_op rg a;u_op rg a;u_c bg rg a;u_cond false rg a;u_c jb rg a;u_c aQ rg a;u_c aQ rg a;u_reg rg a;u_op rg a;u_op rg a;u_op rg a;u_skip rg a;u_skip rg a;u_op rg a;u_op rg a;u_skip rg a;u_skip rg a;u_skip rg a;u_skip rg a;u_op rg a
 u_c bg rg a;u_cond false rg a;u_c jb rg a;u_c aQ rg a;u_c aQ rg a;u_reg rg a;u_op rg a;u_op rg a;u_op rg a;u_skip rg a;u_skip rg a;u_op rg a;u_c bg rg a;u_cond true rg a;u_c qF rg a;refine gG (fun _ b=>Ren.Way.stop rfl (fun _ c d=>?_));replace a:=rg (rg a b) ⟨c,d⟩;clear b c d;refine⟨_,stepG_unwind_entry (v:=.tuple #[]) (evs:=#[Go.ConcR.mk .enable]) rfl H.f_enable (x_enable_n L) (x_enable_b L) (x_enable_x L) (x_enable_f L) (by simp[Extern.Race.none_]) (by simp[Go.ConcR.mk]) (by simp[Go.ConcR.mk]),eH 100 a.live ?_⟩;u_leave0 H.f_add rg a;exact gG fun _ b=>h _ (rg a b)
end
section
variable[aX]
section
variable{P:aH}{Ro own:Nat->Prop}
theorem NS{m k}:∀(n) {g w},Goes P m (bP Ro own) DC0 (fun g w=>bu P Ro (fun _=>True) m k ⟨g,w,own⟩) n g w->bu P Ro (fun _=>True) m k ⟨g,w,own⟩:=by
 intro n;induction n with
 |zero=>
  intro g w h;rcases Goes.cases h with a|⟨_,e,_⟩
  .exact a w (bP.refl _ _ _)
  cases e
 |succ n j=>
  intro g w h;have hr:=Goes.running (fun g w h=>bu.status h) w (bP.refl _ _ _) h;rcases Goes.cases h with a|⟨k',e,d⟩
  .exact a w (bP.refl _ _ _)
  obtain rfl:n=k':=by omega
  have key:∀w1,bP Ro own w w1->∃g',stepG P m g w1=.go g' w1 #[]/\Goes P m (bP Ro own) DC0 (fun g w=>bu P Ro (fun _=>True) m k ⟨g,w,own⟩) n g' w1:=fun w1 c=>by have⟨g',w',es,h1,⟨h2,f⟩,l⟩:=d w1 c;subst h2 f;exact⟨g',h1,l⟩
  let G:ay->dD:=fun w1=>match stepG P m g w1 with|.go g' _ _=>g'|_=>g
  have i:∀w1,bP Ro own w w1->stepG P m g w1=.go (G w1) w1 #[]/\Goes P m (bP Ro own) DC0 (fun g w=>bu P Ro (fun _=>True) m k ⟨g,w,own⟩) n (G w1) w1:=fun w1 c=>by
   have⟨g',h1,f⟩:=key w1 c;have o:G w1=g':=by simp only[G,h1]
   rw[o];exact⟨h1,f⟩
  refine Ren.Way.step hr G id (fun _=>#[]) (fun w1 c _=>⟨(i w1 c).1,⟨fun _=>⟨rfl,rfl⟩,aA _,fun _ _ _=>rfl,rfl,fun b hb=>hb,fun e he=>(by simp at he),.refl _,.refl _⟩⟩) fun w1 c _=>?_;show Ren.Way P m Ro (fun _=>True) k.quiet k.X k.Stop (G w1) w1 (more own w1 w1);rw[zO];exact j (i w1 c).2
def Back(P:aH)(Ro own:Nat->Prop)(w0:ay)(gT:dD):Stops:=fun g w o=>o=own/\bP Ro own w0 w/\bu P Ro (fun _=>True) true (kZ (Here gT own)) ⟨g,w,own⟩
def AtHead(L:WgLink)(Ro own:Nat->Prop)(Wg Ch:Nat)(w0:ay)(c:aC)(cs:List aC):Stops:=fun g w o=>o=own/\RG Ro own L.tWg Wg Ch w0 w/\∃T:Array ae,g=G ((base L.wait).at ⟨T,[]⟩ [.code (L7 L),.inLoop (L7 L),.inBlock 0]) (c::cs)/\T.size=84/\T[0]?=some (.pointer (some ⟨Wg,0,none⟩))
end
section
variable{P:aH}{L:WgLink}{Ro own:Nat->Prop}{Wg Ch:Nat}
 {b₀:aC} {a₀:Act} {ops₀:Array bn} {i₀:Nat} {rest₀:List Nat} {k₀:List ig} {cs:List aC}
theorem Xu(H:WgLib P L){w0}(w)(d:RG Ro own L.tWg Wg Ch w0 w):bu P Ro (Live L.tWg Wg Ch) true (kM Wg (SKd P L.tWg Wg Ch Ro (AtHead L Ro own Wg Ch w0 (b₀.at a₀ (.inRegion ops₀ (i₀::rest₀)::k₀)) cs))) ⟨G ((base L.wait).at ⟨#[.pointer (some ⟨Wg,0,none⟩)]++Array.replicate 83 undef,[]⟩ [.code (body_wait L)]) (b₀.at a₀ (.inRegion ops₀ (i₀::rest₀)::k₀)::cs),w,own⟩:=by lib_facts;refine eH 100 d.live ?_;simp only[body_wait,waitFn,Option.getD_some];walk_nrm;u_c aQ rg d;u_cond true rg d;u_reg rg d;refine gG (fun _ c=>Ren.Way.stop rfl (fun _ b a=>?_));replace d:=rg (rg d c) ⟨b,a⟩;clear c b a;refine⟨_,PL .disable (by simp) rfl rfl (by k_ne) rfl H.f_disable (x_disable_n L) (x_disable_b L) (x_disable_x L) (x_disable_f L),eH 100 d.live ?_⟩;walk_nrm;u_c bg rg d;u_c UG rg d;u_c stepG_loop rg d;refine gG (fun _ c=>Ren.Way.stop rfl (fun _ b a=>?_));replace d:=rg (rg d c) ⟨b,a⟩;clear c b a;exact⟨rfl,d,_,rfl,by simp,by simp⟩
theorem Xv(H:WgLib P L)(hCW:Ch≠Wg)(hW:¬Ro Wg/\¬own Wg){w0}(g)(w)(o)(h:AtHead L Ro own Wg Ch w0 (b₀.at a₀ (.inRegion ops₀ (i₀::rest₀)::k₀)) cs g w o):bu P Ro (Live L.tWg Wg Ch) true (kM Wg (Zk P L.tWg Wg Ch Ro (AtHead L Ro own Wg Ch w0 (b₀.at a₀ (.inRegion ops₀ (i₀::rest₀)::k₀)) cs) (Back P Ro own w0 (G (b₀.at (a₀.put ((ops₀[i₀]?).bind (·.dst)) (.tuple #[])) (.inRegion ops₀ rest₀::k₀)) cs)))) ⟨g,w,o⟩:=by
 lib_facts;obtain⟨rfl,a,T,rfl,k,t0⟩:=h;obtain⟨v0,v1,v2,v3,v4,v5,v6,v7,v8,v9,v10,v11,v12,v13,v14,v15,v16,v17,v18,v19,v20,v21,v22,v23,v24,v25,v26,v27,v28,v29,v30,v31,v32,v33,v34,v35,v36,v37,v38,v39,v40,v41,v42,v43,v44,v45,v46,v47,v48,v49,v50,v51,v52,Z,Y,X,W,V,U,R,Q,O,N,M,K,J,I,F,E,D,C,B,A,z,y,x,u,t,s,r,q,p,m,l,rfl⟩:=array84 T k;simp only[F9,List.getElem?_cons_zero,kG] at t0;subst t0;refine eH 100 a.live ?_;simp only[L7,body_wait,waitFn,Option.getD_some];u_c UG rg a;u_c aQ rg a;u_reg rg a;u_op rg a;u_op rg a;u_op rg a;u_call H.f_uLoad (nm_uLoad L) uLoadFn rg a;u_c aQ rg a;u_reg rg a;u_op rg a;u_c bg rg a;u_c aQ rg a;u_reg rg a;u_op rg a;u_op rg a;u_op rg a;refine gG (fun _ c=>Ren.Way.stop rfl (fun _ b d=>?_));replace a:=rg (rg a c) ⟨b,d⟩;clear c b d;refine fun v hv hw=>?_;rename_i j;rcases uu v with rfl|hvp
 .
  replace hw:WgAt L.tWg Wg j 0 0:=by simpa using hw
  refine⟨_,UF (v:=0) rfl rfl (by k_ne) rfl H.f_loadU64 (x_loadU64_n L) (x_loadU64_b L) (x_loadU64_x L) .u64 (x_loadU64_f L) rfl hw.cellSt,fun _=>eH 100 a.live ?_,fun h=>absurd rfl h⟩;clear hw;walk_nrm;u_op rg a;u_c bg rg a;u_c qF rg a;u_leave1 H.f_uLoad rg a;u_op rg a;u_c bg rg a;u_c aQ rg a;u_reg rg a;u_op rg a;u_op rg a;u_op rg a;u_op rg a;u_c bg rg a;u_c aQ rg a;u_reg rg a;u_op rg a;u_op rg a;u_op rg a;u_op rg a;u_c bg rg a;u_c aQ rg a;u_c aQ rg a;u_reg rg a;u_op rg a;u_op rg a;u_c bg rg a;u_cond true rg a;u_c aQ rg a;u_cond true rg a;u_c aQ rg a;u_reg rg a;refine gG (fun _ c=>Ren.Way.stop rfl (fun _ b d=>?_));replace a:=rg (rg a c) ⟨b,d⟩;clear c b d;refine⟨_,PL .enable (by simp) rfl rfl (by k_ne) rfl H.f_enable (x_enable_n L) (x_enable_b L) (x_enable_x L) (x_enable_f L),eH 100 a.live ?_⟩;walk_nrm;u_c bg rg a;u_reg rg a;u_op rg a;u_conv H.underlying_tWgP H.room_tWg (WgLive.cell0 a.live.1).choose_spec rg a;refine gG (fun _ c=>Ren.Way.stop rfl (fun _ b d=>?_));replace a:=rg (rg a c) ⟨b,d⟩;clear c b d;refine⟨_,PK .acquire (by simp) rfl rfl (by k_ne) rfl H.f_acquire (x_acquire_n L) (x_acquire_b L) (x_acquire_x L) (x_acquire_f L) (by simp[Act.eval,stA]),rfl,rfl,a.rely,NS 100 ?_⟩
  replace a:=a.rely;walk_nrm;u_c bg bP.trans a;u_c aQ bP.trans a;u_c aQ bP.trans a;u_reg bP.trans a;u_op bP.trans a;u_op bP.trans a;u_op bP.trans a;u_op bP.trans a;u_op bP.trans a;u_op bP.trans a;u_op bP.trans a;u_op bP.trans a;u_skip bP.trans a;u_skip bP.trans a;u_op bP.trans a;u_c bg bP.trans a;u_cond false bP.trans a;u_c jb bP.trans a;u_c qF bP.trans a;u_leave0 H.f_wait bP.trans a;exact gG fun _ _=>Ren.Way.stop rfl fun _ _ _=>⟨rfl,rfl⟩
 
 obtain⟨S,hS⟩:∃S:Int,(v:Int)*KK=S:=⟨_,rfl⟩;have a1:S / 4294967296=(v:Int):=by rw[<-hS];simp only[KK];omega
 have b1:bits .and .u64 S 2147483648=0:=by rw[<-hS];have:=st_flag v 0 (by omega) (by omega);simpa[KK] using this
 have b2:bits .and .u64 S 2147483647=0:=by rw[<-hS];have:=st_waiters v 0 (by omega) (by omega);simpa[KK] using this
 have c1:IntKind.i32.wrap (v:Int)=(v:Int):=by rw[UH];omega
 have w1:IntKind.u64.wrap (S+1)=S+1:=by rw[DN,<-hS];simp only[KK];omega
 have q3:decide ((v:Int)<0)=false:=yS (by omega);have q4:decide (0<(v:Int))=true:=rU (by omega);have q5:((v:Int)==0)=false:=by simp;omega
 have q6:decide ((v:Int)=0)=false:=yS (by omega);rw[hS] at hw;refine⟨_,UF (v:=S) rfl rfl (by k_ne) rfl H.f_loadU64 (x_loadU64_n L) (x_loadU64_b L) (x_loadU64_x L) .u64 (x_loadU64_f L) rfl hw.cellSt,fun h0=>absurd h0 (by omega),fun _=>eH 200 a.live ?_⟩;clear hw;walk_nrm;u_op rg a;u_c bg rg a;u_c qF rg a;u_leave1 H.f_uLoad rg a;u_op rg a;u_c bg rg a;u_c aQ rg a;u_reg rg a;u_op rg a;u_op rg a;u_op rg a;u_op rg a;u_c bg rg a;u_c aQ rg a;u_reg rg a;u_op rg a;u_op rg a;u_op rg a;u_op rg a;u_c bg rg a;u_c aQ rg a;u_c aQ rg a;u_reg rg a;u_op rg a;u_op rg a;u_c bg rg a;u_cond false rg a;u_c jb rg a;u_c aQ rg a;u_reg rg a;u_op rg a;u_op rg a;u_op rg a;u_op rg a;u_op rg a;u_op rg a;u_call H.f_uCas (nm_uCas L) uCasFn rg a;u_c aQ rg a;u_reg rg a;u_op rg a;u_c bg rg a;u_c aQ rg a;u_reg rg a;u_op rg a;u_op rg a;u_op rg a;u_op rg a;u_op rg a;refine gG (fun _ c=>Ren.Way.stop rfl (fun _ b d=>?_));replace a:=rg (rg a c) ⟨b,d⟩;clear c b d;rename_i i;refine fun v' hv' hw=>⟨fun e=>?_,fun e=>?_⟩
 .
  subst e;rw[hS] at hw⊢;replace a:=I9 hCW hW a (qG i (stA Wg) (.int .u64 (S+1))) ⟨_,_,hw.setSt _⟩;refine⟨_,(stepG_cas_hit (v:=S) (n:=S+1) rfl rfl (by k_ne) rfl H.f_casU64 (x_casU64_n L) (x_casU64_b L) (x_casU64_x L) .u64 (x_casU64_f L) rfl rfl rfl hw.cellSt (hw.thaw 0)).trans (by rfl),eH 200 a.live ?_⟩;clear hw;walk_nrm;u_op rg a;u_c bg rg a;u_c qF rg a;u_leave1 H.f_uCas rg a;u_c bg rg a;u_cond true rg a;u_c aQ rg a;u_c aQ rg a;u_reg rg a;u_op rg a;u_op rg a;u_op rg a;u_op rg a;u_c bg rg a;u_cond true rg a;u_reg rg a;u_op rg a;u_op rg a;u_op rg a;u_conv H.underlying_tPU32 H.room_tU32 (WgLive.cell1 a.live.1).choose_spec rg a;refine gG (fun _ c=>NR (e:=⟨.mark (.write ⟨Wg,1,none⟩),false,true⟩) rfl (.inl ⟨⟨Wg,1,none⟩,.inr rfl,rfl⟩) rfl (fun _ _=>PK .write (by simp) rfl rfl (by k_ne) rfl H.f_raceWrite (x_raceWrite_n L) (x_raceWrite_b L) (x_raceWrite_x L) (x_raceWrite_f L) (by simp[Act.eval])) (fun _ b=>?_));replace a:=rg (rg a c) b;clear c b;refine eH 200 a.live ?_;walk_nrm;u_c bg rg a;u_c aQ rg a;u_reg rg a;u_op rg a;u_c bg rg a;u_c aQ rg a;u_c aQ rg a;u_reg rg a;u_op rg a;u_op rg a;u_op rg a;u_op rg a;u_skip rg a;u_op rg a;u_c bg rg a;u_cond false rg a;u_c jb rg a;u_c aQ rg a;u_reg rg a
  u_op rg a;u_op rg a;u_op rg a;u_op rg a;refine gG (fun _ c=>Ren.Way.stop rfl (fun _ b d=>?_));replace a:=rg (rg a c) ⟨b,d⟩;clear c b d;rename_i f;refine⟨rfl,rfl,fun⟨st,hw⟩=>stepG_semacquire_wait rfl rfl rfl H.f_semacquire (x_semacquire_n L) (x_semacquire_b L) (x_semacquire_x L) (x_semacquire_f L) (by simp[Act.eval,smA]) hw.cellSm,fun hf=>?_⟩;replace a:=I9 hCW hW a (qG f (smA Wg) (.int .u32 0)) ⟨_,_,hf.setSm 0⟩;refine⟨_,(stepG_semacquire (n:=1) rfl rfl (by k_ne) rfl H.f_semacquire (x_semacquire_n L) (x_semacquire_b L) (x_semacquire_x L) (x_semacquire_f L) (by simp[Act.eval,smA]) hf.cellSm (by k_ne) (hf.thaw 1)).trans (by rfl),eH 200 a.live ?_⟩;clear hf;walk_nrm;u_c bg rg a;u_c aQ rg a;u_reg rg a;u_op rg a;u_op rg a;u_op rg a;u_call H.f_uLoad (nm_uLoad L) uLoadFn rg a;u_c aQ rg a;u_reg rg a;u_op rg a;u_c bg rg a;u_c aQ rg a;u_reg rg a;u_op rg a;u_op rg a;u_op rg a;refine gG (fun _ c=>Ren.Way.stop rfl (fun _ b d=>?_));replace a:=rg (rg a c) ⟨b,d⟩;clear c b d;refine fun hw=>⟨_,UF (v:=0) rfl rfl (by k_ne) rfl H.f_loadU64 (x_loadU64_n L) (x_loadU64_b L) (x_loadU64_x L) .u64 (x_loadU64_f L) rfl hw.cellSt,eH 200 a.live ?_⟩;clear hw;walk_nrm;u_op rg a;u_c bg rg a;u_c qF rg a;u_leave1 H.f_uLoad rg a;u_op rg a;u_op rg a;u_c bg rg a
  u_c aQ rg a;u_cond true rg a;u_c aQ rg a;u_reg rg a;refine gG (fun _ c=>Ren.Way.stop rfl (fun _ b d=>?_));replace a:=rg (rg a c) ⟨b,d⟩;clear c b d;refine⟨_,PL .enable (by simp) rfl rfl (by k_ne) rfl H.f_enable (x_enable_n L) (x_enable_b L) (x_enable_x L) (x_enable_f L),eH 100 a.live ?_⟩;walk_nrm;u_c bg rg a;u_reg rg a;u_op rg a;u_conv H.underlying_tWgP H.room_tWg (WgLive.cell0 a.live.1).choose_spec rg a;refine gG (fun _ c=>Ren.Way.stop rfl (fun _ b d=>?_));replace a:=rg (rg a c) ⟨b,d⟩;clear c b d;refine⟨_,PK .acquire (by simp) rfl rfl (by k_ne) rfl H.f_acquire (x_acquire_n L) (x_acquire_b L) (x_acquire_x L) (x_acquire_f L) (by simp[Act.eval,stA]),rfl,rfl,a.rely,NS 100 ?_⟩;replace a:=a.rely;walk_nrm;u_c bg bP.trans a;u_c aQ bP.trans a;u_c aQ bP.trans a;u_reg bP.trans a;u_op bP.trans a;u_c bg bP.trans a;u_cond false bP.trans a;u_c jb bP.trans a;u_c qF bP.trans a;u_leave0 H.f_wait bP.trans a;exact gG fun _ _=>Ren.Way.stop rfl fun _ _ _=>⟨rfl,rfl⟩
 
 refine⟨_,stepG_cas_miss (v:=(v':Int)*KK) (old:=S) (n:=S+1) rfl rfl (by k_ne) rfl H.f_casU64 (x_casU64_n L) (x_casU64_b L) (x_casU64_x L) .u64 (x_casU64_f L) rfl rfl rfl hw.cellSt (hw.thaw 0) (by rw[<-hS];simp only[KK];omega),eH 100 a.live ?_⟩;clear hw;walk_nrm;u_op rg a;u_c bg rg a;u_c qF rg a;u_leave1 H.f_uCas rg a;u_c bg rg a;u_cond false rg a;u_c jb rg a;u_c stepG_inBlock rg a;u_c stepG_inLoop rg a;refine gG (fun _ c=>Ren.Way.stop rfl (fun _ b d=>?_));replace a:=rg (rg a c) ⟨b,d⟩;clear c b d;exact⟨rfl,a,_,rfl,by simp,by simp⟩
end
end
section
variable[jE][aX]{P:aH}{S:aI->Prop}{L:WgLink}{Ro Hid:Nat->Prop}{Wg Ch:Nat}
def Head(P:aH)(S:aI->Prop)(L:WgLink)(Ro Hid:Nat->Prop)(Wg Ch:Nat)(w:ay)(n0:Nat)(f:Nat->Nat)(End:dD->ay->Prop):Stops:=fun g1 w1 own1=>∃(w0:ay) (b₀:aC) (a₀:Act) (ops₀:Array bn) (i₀:Nat) (rest₀:List Nat) (k₀:List ig) (cs:List aC),AtHead L Ro own1 Wg Ch w0 (b₀.at a₀ (.inRegion ops₀ (i₀::rest₀)::k₀)) cs g1 w1 own1/\(¬Ro Wg/\¬own1 Wg)/\∃(f':Nat->Nat) (g':dD) (v':ay),End g' v'/\eX P S Ro own1 Hid f' g' v' w0/\G (b₀.at (a₀.put ((ops₀[i₀]?).bind (·.dst)) (.tuple #[])) (.inRegion ops₀ rest₀::k₀)) cs=bF f' [] g'/\bP Ro (fun _=>False) w w0/\(∀i,i<n0->f' i=f i)/\n0<=v'.heap.size
theorem Yr(H:WgLib P L)(q:Ch≠Wg){w n0 f End}(g1)(w1)(a)(h:Head P S L Ro Hid Wg Ch w n0 f End g1 w1 a):bu P Ro (Live L.tWg Wg Ch) true (kM Wg (Zk P L.tWg Wg Ch Ro (Head P S L Ro Hid Wg Ch w n0 f End) (afi P S Ro Hid w n0 f End))) ⟨g1,w1,a⟩:=by
 have⟨w0,b₀,a₀,ops₀,i₀,rest₀,k₀,cs,n,r,f',g',v',m,hp,e,hr,d,hn⟩:=h;refine EP (Xv H q r g1 w1 a n) fun g2 w2 l hs=>Zk.mono (fun g w o ha=>?_) (fun g w o hb=>?_) hs
 .obtain rfl:=ha.1;exact⟨w0,b₀,a₀,ops₀,i₀,rest₀,k₀,cs,ha,r,f',g',v',m,hp,e,hr,d,hn⟩
 obtain⟨rfl,c,k⟩:=hb;have⟨j,_,p⟩:=hp.rely c [];refine⟨bH f' v' w,g',v',m,j,?_,⟨bM hr.size c.size,fun b hb ho=>?_,hr.cells.trans c.cells,hr.chans.trans c.chans⟩,fun i hi=>(eG (bT hi hn)).trans (d i hi),hn⟩
 .rw[<-p,<-e];exact k
 rcases ho with ho|ho
 .exact(c.keep b (bT hb hr.size) (.inl ho)).trans (hr.keep b hb (.inl ho))
 exact ho.elim
theorem Yq(H:WgLib P L){w w0 w1 n0 f End a}{b₀:aC}{a₀ ops₀ i₀ rest₀ k₀ cs}(d:RG Ro a L.tWg Wg Ch w0 w1)(j:¬Ro Wg/\¬a Wg){f' g' v'}(h:End g' v')(hp:eX P S Ro a Hid f' g' v' w0)(e:G (b₀.at (a₀.put ((ops₀[i₀]?).bind (·.dst)) (.tuple #[])) (.inRegion ops₀ rest₀::k₀)) cs=bF f' [] g')(hr:bP Ro (fun _=>False) w w0)(b:∀i,i<n0->f' i=f i)(hn:n0<=v'.heap.size):bu P Ro (Live L.tWg Wg Ch) true (kM Wg (SKd P L.tWg Wg Ch Ro (Head P S L Ro Hid Wg Ch w n0 f End))) ⟨G ((base L.wait).at ⟨#[.pointer (some ⟨Wg,0,none⟩)]++Array.replicate 83 undef,[]⟩ [.code (body_wait L)]) (b₀.at a₀ (.inRegion ops₀ (i₀::rest₀)::k₀)::cs),w1,a⟩:=by refine EP (Xu H w1 d) fun g2 w2 c hs=>SKd.mono (fun g w o ha=>?_) hs;obtain rfl:=ha.1;exact⟨w0,b₀,a₀,ops₀,i₀,rest₀,k₀,cs,ha,j,f',g',v',h,hp,e,hr,b,hn⟩
end
end Go.Crew
