import Derived.Test.YtjilljfmaknihaaGreatA25
set_option linter.all false
set_option maxHeartbeats 64000000
set_option maxRecDepth 100000
namespace Go
def DL:=@Go.Conc.QuitsD.value
end Go
namespace Go.Crew
open Go.Conc Go.ConcN Go.Ren
section
variable[aX]
theorem CX{P:aH}:∀{n e d:Nat} {g:dD},QuitsD P n d g->n<=e->QuitsD P e d g
|0,0,_,_,h,_=>h
|0,_+1,_,_,h,_=>.inl h
|n+1,0,_,_,_,h=>absurd h (by omega)
|n+1,e+1,_,_,h,hn=>h.imp id fun⟨h1,g',es,h2,i,f⟩=>⟨h1,g',es,h2,i,CX f (by omega)⟩
section
variable{P:aH}{n d:Nat}{b:aC}{a:Act}{k:List ig}{cs:List aC}{x y c:Code}{op:fH}{id:Nat}{ops:Array bn}
theorem VO(h:QuitsD P n d (G (b.at a (.code x::.code y::k)) cs)):QuitsD P (n+1) d (G (b.at a (.code (.seq x y)::k)) cs):=.ctl rfl (fun _=>aQ) h
theorem ql(h:QuitsD P n d (G (b.at a k) cs)):QuitsD P (n+1) d (G (b.at a (.inRegion ops []::k)) cs):=.ctl rfl (fun _=>bg) h
theorem CY(h:QuitsD P n d (G (b.at a (.inRegion ops (List.range ops.size)::k)) cs)):QuitsD P (n+1) d (G (b.at a (.code (.region id ops false)::k)) cs):=.ctl rfl (fun _=>stepG_region) h
theorem Tt(he:a.eval op=.bool true)(h:QuitsD P n d (G (b.at a (.code x::k)) cs)):QuitsD P (n+1) d (G (b.at a (.code (.cond op x y)::k)) cs):=.ctl rfl (fun _=>(stepG_cond he).trans rfl) h
theorem Hw(he:a.eval op=.bool false)(h:QuitsD P n d (G (b.at a (.code y::k)) cs)):QuitsD P (n+1) d (G (b.at a (.code (.cond op x y)::k)) cs):=.ctl rfl (fun _=>(stepG_cond he).trans rfl) h
theorem VP(h:QuitsD P n d (G (b.at a k) cs)):QuitsD P (n+1) d (G (b.at a (.code .skip::k)) cs):=.ctl rfl (fun _=>jb) h
theorem abm(h:QuitsD P n d (G (b.at a k) cs)):QuitsD P (n+1) d (G (b.at a (.inBlock id::k)) cs):=.ctl rfl (fun _=>stepG_inBlock) h
theorem ac7(h:QuitsD P n d (G (b.at a (.code c::.inLoop c::k)) cs)):QuitsD P (n+1) d (G (b.at a (.inLoop c::k)) cs):=.ctl rfl (fun _=>stepG_inLoop) h
theorem QR(h:QuitsD P n d (G {b.at a (.code .ret::k) with mode:=.returning} cs)):QuitsD P (n+1) d (G (b.at a (.code .ret::k)) cs):=.ctl rfl (fun _=>qF) h
theorem ajR(h:QuitsD P n d (G {b.at a [] with mode:=.returning} cs)):QuitsD P (n+1) d (G (b.at a []) cs):=.ctl rfl (fun _=>stepG_end) h
end
end
open Go.RowKit Go.Conc.Lib Go.ConcR.Gen Go.ConcN.Gen
open Go.ConcR (KK wgBlock WgAt stA smA rd wr DC0)
section
variable[aX]
section
variable{P:aH}{L:WgLink}{Ro own:Nat->Prop}{Wg Ch:Nat}
 {b₀:aC} {a₀:Act} {ops₀:Array bn} {i₀:Nat} {rest₀:List Nat} {k₀:List ig} {cs:List aC}
theorem add_neg(H:WgLib P L)(hCW:Ch≠Wg)(hW:¬Ro Wg/\¬own Wg){w0:ay}{qt:Nat}(hT:QuitsD P qt 0 (G (b₀.at (a₀.put ((ops₀[i₀]?).bind (·.dst)) (.tuple #[])) (.inRegion ops₀ rest₀::k₀)) cs))(w:ay)(hF:RG Ro own L.tWg Wg Ch w0 w):bu P Ro (Live L.tWg Wg Ch) false (kN (SR0 P L.tWg Wg Ch Ro)) ⟨G ((base L.add).at ⟨#[.pointer (some ⟨Wg,0,none⟩),.int .i64 (-1)]++Array.replicate 115 undef,[]⟩ [.code (body_add L)]) (b₀.at a₀ (.inRegion ops₀ (i₀::rest₀)::k₀)::cs),w,own⟩:=by
 lib_facts;refine eH 100 hF.live ?_;simp only[body_add,addFn,Option.getD_some];walk_nrm;u_c aQ rg hF;u_cond true rg hF;u_c aQ rg hF;u_c aQ rg hF;u_reg rg hF;u_op rg hF;u_op rg hF;u_c bg rg hF;u_cond true rg hF;u_reg rg hF;u_op rg hF;u_conv H.underlying_tWgP H.room_tWg (WgLive.cell0 hF.live.1).choose_spec rg hF;refine gG (fun _ h₁=>Ren.Way.stop rfl (fun _ h₂ h₃=>?_));replace hF:=rg (rg hF h₁) ⟨h₂,h₃⟩;clear h₁ h₂ h₃;refine⟨_,PK .releaseMerge (by simp) rfl rfl (by k_ne) rfl H.f_relMerge (x_relMerge_n L) (x_relMerge_b L) (x_relMerge_x L) (x_relMerge_f L) (by simp[Act.eval,stA]),eH 100 hF.live ?_⟩;walk_nrm;u_c bg rg hF;u_c aQ rg hF;u_reg rg hF;refine gG (fun _ h₁=>Ren.Way.stop rfl (fun _ h₂ h₃=>?_));replace hF:=rg (rg hF h₁) ⟨h₂,h₃⟩;clear h₁ h₂ h₃;refine⟨_,PL .disable (by simp) rfl rfl (by k_ne) rfl H.f_disable (x_disable_n L) (x_disable_b L) (x_disable_x L) (x_disable_f L),eH 100 hF.live ?_⟩;walk_nrm;u_c bg rg hF;u_reg rg hF;u_defer rg hF;u_c bg rg hF;u_c aQ rg hF;u_reg rg hF;u_op rg hF;u_c bg rg hF;u_c aQ rg hF;u_c aQ rg hF;u_reg rg hF;u_bub rg hF;u_c bg rg hF;u_cond false rg hF;u_c jb rg hF;u_c aQ rg hF;u_reg rg hF;iterate 6 u_op rg hF
 u_call H.f_uAdd (nm_uAdd L) uAddFn rg hF;u_c aQ rg hF;u_reg rg hF;u_op rg hF;u_c bg rg hF;u_c aQ rg hF;u_reg rg hF;iterate 4 u_op rg hF
 refine gG (fun _ h₁=>Ren.Way.stop rfl (fun _ h₂ h₃=>?_));replace hF:=rg (rg hF h₁) ⟨h₂,h₃⟩;clear h₁ h₂ h₃;refine fun v wt hwt hv hw=>?_;rename_i w₁;have e0:IntKind.u64.wrap (KK+18446744069414584320)=0:=by decide
 have e1:IntKind.u64.wrap (KK+1+18446744069414584320)=1:=by decide
 rcases uu v with rfl|hvp<;>(obtain rfl|rfl:wt=0\/wt=1:=by omega)
 .
  replace hw:WgAt L.tWg Wg w₁ KK 0:=by simpa using hw
  have z:((0:Nat):Int)*KK+((0:Nat):Int)=0:=by simp
  rw[z];refine⟨_,(JP rfl rfl (by k_ne) rfl H.f_addU64 (JO L) (JM L) (JL L) .u64 (JK L) rfl rfl hw.cellSt (hw.thaw 0)).trans (by rw[e0];rfl),fun hl=>absurd hl.2 (by decide),fun _=>⟨qt+200,?_⟩⟩;clear hw hF;walk_nrm;refine DL _ rfl rfl (by k_ne) (fun _=>by go_simp;(try w_num);first|(simp only[*];rfl)|rfl) (fun _=>by simp[go_sem, *]) ?_;walk_nrm
  with_reducible refine ql ?_
  with_reducible refine QR ?_
  q_leave1 H.f_uAdd;iterate 81 first|with_reducible refine VO ?_|with_reducible refine ql ?_|with_reducible refine VP ?_|((with_reducible refine Hw ?_ ?_);rfl)|((with_reducible refine CY ?_);simp only[oq,List.length_cons,List.length_nil,Nat.reduceAdd,DF,List.range,List.range.loop])|(refine DL _ rfl rfl (by k_ne) (fun _=>by go_simp;(try w_num);first|(simp only[*];rfl)|rfl) (fun _=>by simp[go_sem, *]) ?_;walk_nrm)|q_skip
  (with_reducible refine Tt ?_ ?_);rfl
  with_reducible refine QR ?_
  q_enable;q_leave0 H.f_add;exact CX hT (by omega)
 .
  replace hw:WgAt L.tWg Wg w₁ (KK+1) 0:=by simpa using hw
  have z:((0:Nat):Int)*KK+((1:Nat):Int)=1:=by simp
  rw[z];replace hF:=I9 hCW hW hF (qG w₁ (stA Wg) (.int .u64 1)) ⟨_,_,hw.setSt _⟩;refine⟨_,(JP rfl rfl (by k_ne) rfl H.f_addU64 (JO L) (JM L) (JL L) .u64 (JK L) rfl rfl hw.cellSt (hw.thaw 0)).trans (by rw[e1];rfl),fun _=>eH 400 hF.live ?_,fun hl=>absurd ⟨rfl,rfl⟩ hl⟩;clear hw;walk_nrm;u_op rg hF;u_c bg rg hF;u_c qF rg hF;u_leave1 H.f_uAdd rg hF;u_op rg hF;u_c bg rg hF;u_c aQ rg hF;u_c aQ rg hF;u_reg rg hF;iterate 4 u_op rg hF
  u_skip rg hF;u_skip rg hF;u_op rg hF;u_c bg rg hF;u_cond false rg hF;u_c jb rg hF;u_c aQ rg hF;u_reg rg hF;iterate 4 u_op rg hF
  u_c bg rg hF;u_c aQ rg hF;u_reg rg hF;iterate 4 u_op rg hF
  u_c bg rg hF;u_c aQ rg hF;u_c aQ rg hF;u_reg rg hF;iterate 5 u_op rg hF
  u_skip rg hF;u_skip rg hF;u_skip rg hF;u_skip rg hF;u_op rg hF;u_c bg rg hF;u_cond false rg hF;u_c jb rg hF;u_c aQ rg hF;u_c aQ rg hF;u_reg rg hF;u_op rg hF;u_op rg hF;u_c bg rg hF;u_cond false rg hF;u_c jb rg hF;u_c aQ rg hF;u_c aQ rg hF;u_reg rg hF;iterate 7 u_op rg hF
  u_skip rg hF;u_skip rg hF;u_skip rg hF;u_skip rg hF;u_op rg hF;u_c bg rg hF;u_cond false rg hF;u_c jb rg hF;u_c aQ rg hF;u_c aQ rg hF;u_reg rg hF;iterate 6 u_op rg hF
  u_c bg rg hF;u_cond false rg hF;u_c jb rg hF;u_c aQ rg hF;u_c aQ rg hF;u_reg rg hF;iterate 3 u_op rg hF
  u_call H.f_uLoad (nm_uLoad L) uLoadFn rg hF;u_c aQ rg hF;u_reg rg hF;u_op rg hF;u_c bg rg hF;u_c aQ rg hF;u_reg rg hF;iterate 3 u_op rg hF
  refine gG (fun _ h₁=>Ren.Way.stop rfl (fun _ h₂ h₃=>?_));replace hF:=rg (rg hF h₁) ⟨h₂,h₃⟩;clear h₁ h₂ h₃;refine fun hw=>⟨_,UF rfl rfl (by k_ne) rfl H.f_loadU64 (x_loadU64_n L) (x_loadU64_b L) (x_loadU64_x L) .u64 (x_loadU64_f L) rfl hw.cellSt,eH 400 hF.live ?_⟩;clear hw;walk_nrm;u_op rg hF;u_c bg rg hF;u_c qF rg hF;u_leave1 H.f_uLoad rg hF;u_op rg hF;u_op rg hF;u_c bg rg hF;u_cond false rg hF;u_c jb rg hF;u_c aQ rg hF;u_reg rg hF;iterate 3 u_op rg hF
  u_call H.f_uStore (nm_uStore L) uStoreFn rg hF;u_reg rg hF;iterate 4 u_op rg hF
  refine gG (fun _ h₁=>Ren.Way.stop rfl (fun _ h₂ h₃=>?_));replace hF:=rg (rg hF h₁) ⟨h₂,h₃⟩;clear h₁ h₂ h₃;rename_i w₃;refine fun hw=>?_;replace hF:=I9 hCW hW hF (qG w₃ (stA Wg) (.int .u64 0)) ⟨_,_,hw.setSt _⟩;refine⟨_,stepG_store_atomic rfl rfl (by k_ne) rfl H.f_storeU64 (x_storeU64_n L) (x_storeU64_b L) (x_storeU64_x L) (x_storeU64_f L) rfl rfl hw.cellSt (hw.thaw 0),eH 400 hF.live ?_⟩;clear hw;walk_nrm;u_c bg rg hF;u_c stepG_end rg hF;u_leave0 H.f_uStore rg hF;u_c bg rg hF;u_c aQ rg hF;u_c aQ rg hF;u_reg rg hF;u_op rg hF;u_c bg rg hF;u_cond false rg hF;u_c jb rg hF;u_c UG rg hF;u_c stepG_loop rg hF;u_c aQ rg hF;u_c aQ rg hF;u_reg rg hF;u_op rg hF;u_op rg hF;u_c bg rg hF;u_cond true rg hF;u_c jb rg hF;u_c aQ rg hF;u_c UG rg hF;u_reg rg hF;iterate 3 u_op rg hF
  refine gG (fun _ h₁=>Ren.Way.stop rfl (fun _ h₂ h₃=>?_));replace hF:=rg (rg hF h₁) ⟨h₂,h₃⟩;clear h₁ h₂ h₃;refine⟨mayWake_entry rfl rfl H.f_semrelease (x_semrelease_b L),fun hw=>⟨_,(stepG_semrelease rfl rfl (by k_ne) rfl H.f_semrelease (x_semrelease_n L) (x_semrelease_b L) (x_semrelease_x L) (x_semrelease_f L) (by simp[Act.eval,smA]) hw.cellSm (hw.thaw 1)).trans (by rfl),qt+200,?_⟩⟩;clear hw hF;walk_nrm;with_reducible refine ql ?_
  with_reducible refine abm ?_
  iterate 5 first|with_reducible refine VO ?_|with_reducible refine ql ?_|with_reducible refine VP ?_|((with_reducible refine Hw ?_ ?_);rfl)|((with_reducible refine CY ?_);simp only[oq,List.length_cons,List.length_nil,Nat.reduceAdd,DF,List.range,List.range.loop])|(refine DL _ rfl rfl (by k_ne) (fun _=>by go_simp;(try w_num);first|(simp only[*];rfl)|rfl) (fun _=>by simp[go_sem, *]) ?_;walk_nrm)|q_skip
  with_reducible refine ac7 ?_
  iterate 7 first|with_reducible refine VO ?_|with_reducible refine ql ?_|with_reducible refine VP ?_|((with_reducible refine Hw ?_ ?_);rfl)|((with_reducible refine CY ?_);simp only[oq,List.length_cons,List.length_nil,Nat.reduceAdd,DF,List.range,List.range.loop])|(refine DL _ rfl rfl (by k_ne) (fun _=>by go_simp;(try w_num);first|(simp only[*];rfl)|rfl) (fun _=>by simp[go_sem, *]) ?_;walk_nrm)|q_skip
  q_exit;with_reducible refine ajR ?_
  q_enable;q_leave0 H.f_add;exact CX hT (by omega)
 .
  replace hw:WgAt L.tWg Wg w₁ (((v:Nat)+1)*KK+0) 0:=by simpa using hw
  obtain⟨S,hS⟩:∃S:Int,S=(v:Int)*KK+((0:Nat):Int):=⟨_,rfl⟩;have eS:IntKind.u64.wrap (((v:Nat)+1)*KK+0+18446744069414584320)=S:=by rw[DN,hS];simp only[KK];omega
  rw[<-hS];have a1:S / 4294967296=(v:Int):=by rw[hS];simp only[KK];omega
  have a2:IntKind.u64.wrap S=S:=by rw[DN,hS];simp only[KK];omega
  have a3:IntKind.u64.wrap (v:Int)=(v:Int):=by rw[DN];omega
  have a4:IntKind.i32.wrap (v:Int)=(v:Int):=by rw[UH];omega
  have b1:bits .and .u64 S 2147483648=0:=by rw[hS];have:=st_flag v 0 (by omega) (by omega);simpa[KK] using this
  have b2:bits .and .u64 S 2147483647=0:=by rw[hS];have:=st_waiters v 0 (by omega) (by omega);simpa[KK] using this
  have q3:decide ((v:Int)<0)=false:=yS (by omega);have q4:decide (0<(v:Int))=true:=rU (by omega);have q5:((v:Int)==0)=false:=by simp;omega
  have q6:decide ((v:Int)=0)=false:=yS (by omega);refine⟨_,(JP rfl rfl (by k_ne) rfl H.f_addU64 (JO L) (JM L) (JL L) .u64 (JK L) rfl rfl hw.cellSt (hw.thaw 0)).trans (by rw[eS];rfl),fun hl=>absurd hl.1 (by omega),fun _=>⟨qt+200,?_⟩⟩;clear hw hF hS eS;walk_nrm;refine DL _ rfl rfl (by k_ne) (fun _=>by go_simp;(try w_num);first|(simp only[*];rfl)|rfl) (fun _=>by simp[go_sem, *]) ?_;walk_nrm
  with_reducible refine ql ?_
  with_reducible refine QR ?_
  q_leave1 H.f_uAdd;iterate 81 first|with_reducible refine VO ?_|with_reducible refine ql ?_|with_reducible refine VP ?_|((with_reducible refine Hw ?_ ?_);rfl)|((with_reducible refine CY ?_);simp only[oq,List.length_cons,List.length_nil,Nat.reduceAdd,DF,List.range,List.range.loop])|(refine DL _ rfl rfl (by k_ne) (fun _=>by go_simp;(try w_num);first|(simp only[*];rfl)|rfl) (fun _=>by simp[go_sem, *]) ?_;walk_nrm)|q_skip
  (with_reducible refine Tt ?_ ?_);rfl
  with_reducible refine QR ?_
  q_enable;q_leave0 H.f_add;exact CX hT (by omega)
 
 replace hw:WgAt L.tWg Wg w₁ (((v:Nat)+1)*KK+1) 0:=by simpa using hw
 obtain⟨S,hS⟩:∃S:Int,S=(v:Int)*KK+((1:Nat):Int):=⟨_,rfl⟩;have eS:IntKind.u64.wrap (((v:Nat)+1)*KK+1+18446744069414584320)=S:=by rw[DN,hS];simp only[KK];omega
 rw[<-hS];have a1:S / 4294967296=(v:Int):=by rw[hS];simp only[KK];omega
 have a2:IntKind.u64.wrap S=S:=by rw[DN,hS];simp only[KK];omega
 have a3:IntKind.u64.wrap (v:Int)=(v:Int):=by rw[DN];omega
 have a4:IntKind.i32.wrap (v:Int)=(v:Int):=by rw[UH];omega
 have b1:bits .and .u64 S 2147483648=0:=by rw[hS];have:=st_flag v 1 (by omega) (by omega);simpa[KK] using this
 have b2:bits .and .u64 S 2147483647=1:=by rw[hS];have:=st_waiters v 1 (by omega) (by omega);simpa[KK] using this
 have q3:decide ((v:Int)<0)=false:=yS (by omega);have q4:decide (0<(v:Int))=true:=rU (by omega);have q5:((v:Int)==0)=false:=by simp;omega
 have q6:decide ((v:Int)=0)=false:=yS (by omega);refine⟨_,(JP rfl rfl (by k_ne) rfl H.f_addU64 (JO L) (JM L) (JL L) .u64 (JK L) rfl rfl hw.cellSt (hw.thaw 0)).trans (by rw[eS];rfl),fun hl=>absurd hl.1 (by omega),fun _=>⟨qt+200,?_⟩⟩;clear hw hF hS eS;walk_nrm;refine DL _ rfl rfl (by k_ne) (fun _=>by go_simp;(try w_num);first|(simp only[*];rfl)|rfl) (fun _=>by simp[go_sem, *]) ?_;walk_nrm
 with_reducible refine ql ?_
 with_reducible refine QR ?_
 q_leave1 H.f_uAdd;iterate 81 first|with_reducible refine VO ?_|with_reducible refine ql ?_|with_reducible refine VP ?_|((with_reducible refine Hw ?_ ?_);rfl)|((with_reducible refine CY ?_);simp only[oq,List.length_cons,List.length_nil,Nat.reduceAdd,DF,List.range,List.range.loop])|(refine DL _ rfl rfl (by k_ne) (fun _=>by go_simp;(try w_num);first|(simp only[*];rfl)|rfl) (fun _=>by simp[go_sem, *]) ?_;walk_nrm)|q_skip
 (with_reducible refine Tt ?_ ?_);rfl
 with_reducible refine QR ?_
 q_enable;q_leave0 H.f_add;exact CX hT (by omega)
end
section
variable{P:aH}{L:WgLink}{Ro own:Nat->Prop}{Wg Ch:Nat}{c:aC}{cs:List aC}
theorem Qu(H:WgLib P L)(g:Ch≠Wg)(h:¬Ro Wg/\¬own Wg){w0 qt}(d:c.mode=.returning)(f:QuitsD P qt 0 (G c cs))(w)(b:RG Ro own L.tWg Wg Ch w0 w):bu P Ro (Live L.tWg Wg Ch) false (kN (SR0 P L.tWg Wg Ch Ro)) ⟨G ((baseD L.done).at ⟨#[.pointer (some ⟨Wg,0,none⟩)]++Array.replicate 3 undef,[]⟩ [.code (body_done L)]) (c::cs),w,own⟩:=by lib_facts;have e:=@add_neg _ P L Ro own Wg Ch;refine eH 100 b.live ?_;simp only[body_done,body_add,doneFn,addFn,Option.getD_some] at e⊢;walk_nrm;u_reg rg b;u_op rg b;u_call H.f_add (nm_add L) addFn rg b;refine gG fun _ a=>?_;simp only[Act.put,Act.eval,tX,fU,iw,pq,F9,List.getElem?_cons_succ,List.getElem?_cons_zero,Option.getD_some,Option.bind_some,oq,List.length_cons,List.length_nil,Nat.reduceAdd,Nat.reduceSub,xG,Array.replicate_zero,uo,xE,List.nil_append,List.cons_append,List.setIfInBounds_toArray,List.set_cons_succ,List.set_cons_zero,List.getElem_toArray,List.getElem_cons_succ,List.getElem_cons_zero] at e;refine e H g h (qt:=qt+3) ?_ _ (rg b a);q_c bg;q_c stepG_end;exact QuitsD.leaveD rfl rfl H.f_done rfl d f
end
end
end Go.Crew
