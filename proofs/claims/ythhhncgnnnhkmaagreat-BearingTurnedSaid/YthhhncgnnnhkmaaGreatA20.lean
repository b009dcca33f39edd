import Derived.Test.YthhhncgnnnhkmaaGreatA18
set_option linter.all false
namespace Go.Crew
open Go.Conc Go.ConcN Go.Ren
section
variable[Hidden]
theorem quits_le{P:Program}:∀{n n' d:Nat} {g:Goroutine},QuitsD P n d g→n≤n'→QuitsD P n' d g
 |0,0,_,_,h,_=>h
 |0,_+1,_,_,h,_=>.inl h
 |n+1,0,_,_,_,h=>absurd h (by omega)
 |n+1,n'+1,_,_,h,hn=>h.imp id fun⟨h1,g',es,h2,h3,h4⟩=>⟨h1,g',es,h2,h3,quits_le h4 (by omega)⟩
section
variable{P:Program}{n d:Nat}{b:Frame}{a:Act}{k:List Item}{cs:List Frame}{x y c:Code}{op:Operand}{id:Nat}{ops:Array Oper}
theorem q_seq(h:QuitsD P n d (G (b.at a (.code x::.code y::k)) cs)):QuitsD P (n+1) d (G (b.at a (.code (.seq x y)::k)) cs):=.ctl rfl (fun _=>stepG_seq) h
theorem q_regend(h:QuitsD P n d (G (b.at a k) cs)):QuitsD P (n+1) d (G (b.at a (.inRegion ops []::k)) cs):=.ctl rfl (fun _=>stepG_region_end) h
theorem q_region(h:QuitsD P n d (G (b.at a (.inRegion ops (List.range ops.size)::k)) cs)):QuitsD P (n+1) d (G (b.at a (.code (.region id ops false)::k)) cs):=.ctl rfl (fun _=>stepG_region) h
theorem q_condT(he:a.eval op=.bool true)(h:QuitsD P n d (G (b.at a (.code x::k)) cs)):QuitsD P (n+1) d (G (b.at a (.code (.cond op x y)::k)) cs):=.ctl rfl (fun _=>(stepG_cond he).trans rfl) h
theorem q_condF(he:a.eval op=.bool false)(h:QuitsD P n d (G (b.at a (.code y::k)) cs)):QuitsD P (n+1) d (G (b.at a (.code (.cond op x y)::k)) cs):=.ctl rfl (fun _=>(stepG_cond he).trans rfl) h
theorem q_nop(h:QuitsD P n d (G (b.at a k) cs)):QuitsD P (n+1) d (G (b.at a (.code .skip::k)) cs):=.ctl rfl (fun _=>stepG_skip) h
theorem q_inBlock(h:QuitsD P n d (G (b.at a k) cs)):QuitsD P (n+1) d (G (b.at a (.inBlock id::k)) cs):=.ctl rfl (fun _=>stepG_inBlock) h
theorem q_inLoop(h:QuitsD P n d (G (b.at a (.code c::.inLoop c::k)) cs)):QuitsD P (n+1) d (G (b.at a (.inLoop c::k)) cs):=.ctl rfl (fun _=>stepG_inLoop) h
theorem q_ret(h:QuitsD P n d (G {b.at a (.code .ret::k) with mode:=.returning} cs)):QuitsD P (n+1) d (G (b.at a (.code .ret::k)) cs):=.ctl rfl (fun _=>stepG_ret') h
theorem q_fin(h:QuitsD P n d (G {b.at a [] with mode:=.returning} cs)):QuitsD P (n+1) d (G (b.at a []) cs):=.ctl rfl (fun _=>stepG_end) h
end
end
open Go.RowKit Go.Conc.Lib Go.ConcR.Gen Go.ConcN.Gen
open Go.ConcR (KK wgBlock WgAt stA smA rd wr DC0)
section
variable[Hidden]
section
variable{P:Program}{L:WgLink}{Ro own:Nat→Prop}{Wg Ch:Nat}
 {b₀:Frame} {a₀:Act} {ops₀:Array Oper} {i₀:Nat} {rest₀:List Nat} {k₀:List Item} {cs:List Frame}
set_option maxRecDepth 100000 in
set_option maxHeartbeats 16000000 in
theorem add_neg(H:WgLib P L)(hCW:Ch≠Wg)(hW:¬Ro Wg∧¬own Wg){w0:World}{qt:Nat}(hT:QuitsD P qt 0 (G (b₀.at (a₀.put ((ops₀[i₀]?).bind (·.dst)) (.tuple #[])) (.inRegion ops₀ rest₀::k₀)) cs))(w:World)(hF:RG Ro own L.tWg Wg Ch w0 w):OnWay P Ro (Live L.tWg Wg Ch) false (kQ (SR0 P L.tWg Wg Ch Ro)) ⟨G ((base L.add).at ⟨#[.pointer (some ⟨Wg,0,none⟩),.int .i64 (-1)]++Array.replicate 115 undef,[]⟩ [.code (body_add L)]) (b₀.at a₀ (.inRegion ops₀ (i₀::rest₀)::k₀)::cs),w,own⟩:=by
 lib_facts
 refine onway_of 100 hF.live ?_
 simp only[body_add,addFn,Option.getD_some]
 walk_nrm
 u_c stepG_seq rg hF
 u_cond true rg hF
 u_c stepG_seq rg hF
 u_c stepG_seq rg hF
 u_reg rg hF
 u_op rg hF
 u_op rg hF
 u_c stepG_region_end rg hF
 u_cond true rg hF
 u_reg rg hF
 u_op rg hF
 u_conv H.underlying_tWgP H.room_tWg (WgLive.cell0 hF.live.1).choose_spec rg hF
 refine Goes.stop (fun _ h₁=>Ren.Way.stop rfl (fun _ h₂ h₃=>?_));replace hF:=rg (rg hF h₁) ⟨h₂,h₃⟩;clear h₁ h₂ h₃
 refine⟨_,stepG_markAt .releaseMerge (by simp) rfl rfl (by k_ne) rfl H.f_relMerge (x_relMerge_n L) (x_relMerge_b L) (x_relMerge_x L) (x_relMerge_f L) (by simp[Act.eval,stA]),onway_of 100 hF.live ?_⟩
 walk_nrm
 u_c stepG_region_end rg hF
 u_c stepG_seq rg hF
 u_reg rg hF
 refine Goes.stop (fun _ h₁=>Ren.Way.stop rfl (fun _ h₂ h₃=>?_));replace hF:=rg (rg hF h₁) ⟨h₂,h₃⟩;clear h₁ h₂ h₃
 refine⟨_,stepG_mark0 .disable (by simp) rfl rfl (by k_ne) rfl H.f_disable (x_disable_n L) (x_disable_b L) (x_disable_x L) (x_disable_f L),onway_of 100 hF.live ?_⟩
 walk_nrm
 u_c stepG_region_end rg hF
 u_reg rg hF
 u_defer rg hF
 u_c stepG_region_end rg hF
 u_c stepG_seq rg hF
 u_reg rg hF
 u_op rg hF
 u_c stepG_region_end rg hF
 u_c stepG_seq rg hF
 u_c stepG_seq rg hF
 u_reg rg hF
 u_bub rg hF
 u_c stepG_region_end rg hF
 u_cond false rg hF
 u_c stepG_skip rg hF
 u_c stepG_seq rg hF
 u_reg rg hF
 iterate 6 u_op rg hF
 u_call H.f_uAdd (nm_uAdd L) uAddFn rg hF
 u_c stepG_seq rg hF
 u_reg rg hF
 u_op rg hF
 u_c stepG_region_end rg hF
 u_c stepG_seq rg hF
 u_reg rg hF
 iterate 4 u_op rg hF
 refine Goes.stop (fun _ h₁=>Ren.Way.stop rfl (fun _ h₂ h₃=>?_));replace hF:=rg (rg hF h₁) ⟨h₂,h₃⟩;clear h₁ h₂ h₃
 refine fun v wt hwt hv hw=>?_
 rename_i w₁
 have e0:IntKind.u64.wrap (KK+18446744069414584320)=0:=by decide
 have e1:IntKind.u64.wrap (KK+1+18446744069414584320)=1:=by decide
 rcases Nat.eq_zero_or_pos v with rfl|hvp<;>(obtain rfl|rfl:wt=0∨wt=1:=by omega)
 .
  replace hw:WgAt L.tWg Wg w₁ KK 0:=by simpa using hw
  have z:((0:Nat):Int)*KK+((0:Nat):Int)=0:=by simp
  rw[z]
  refine⟨_,(stepG_add_atomic rfl rfl (by k_ne) rfl H.f_addU64 (x_addU64_n L) (x_addU64_b L) (x_addU64_x L) .u64 (x_addU64_f L) rfl rfl hw.cellSt (hw.thaw 0)).trans (by rw[e0];rfl),fun hl=>absurd hl.2 (by decide),fun _=>⟨qt+200,?_⟩⟩
  clear hw hF
  walk_nrm
  refine QuitsD.value _ rfl rfl (by k_ne) (fun _=>by go_simp;(try w_num);first|(simp only[*];rfl)|rfl) (fun _=>by simp[go_sem, *]) ?_;walk_nrm
  with_reducible refine q_regend ?_
  with_reducible refine q_ret ?_
  q_leave1 H.f_uAdd
  iterate 81 first|with_reducible refine q_seq ?_|with_reducible refine q_regend ?_|with_reducible refine q_nop ?_|((with_reducible refine q_condF ?_ ?_);rfl)|((with_reducible refine q_region ?_);simp only[List.size_toArray,List.length_cons,List.length_nil,Nat.reduceAdd,Nat.zero_add,List.range,List.range.loop])|(refine QuitsD.value _ rfl rfl (by k_ne) (fun _=>by go_simp;(try w_num);first|(simp only[*];rfl)|rfl) (fun _=>by simp[go_sem, *]) ?_;walk_nrm)|q_skip
  (with_reducible refine q_condT ?_ ?_);rfl
  with_reducible refine q_ret ?_
  q_enable
  q_leave0 H.f_add
  exact quits_le hT (by omega)
 .
  replace hw:WgAt L.tWg Wg w₁ (KK+1) 0:=by simpa using hw
  have z:((0:Nat):Int)*KK+((1:Nat):Int)=1:=by simp
  rw[z]
  replace hF:=rg_set hCW hW hF (aside_setCell w₁ (stA Wg) (.int .u64 1)) ⟨_,_,hw.setSt _⟩
  refine⟨_,(stepG_add_atomic rfl rfl (by k_ne) rfl H.f_addU64 (x_addU64_n L) (x_addU64_b L) (x_addU64_x L) .u64 (x_addU64_f L) rfl rfl hw.cellSt (hw.thaw 0)).trans (by rw[e1];rfl),fun _=>onway_of 400 hF.live ?_,fun hl=>absurd ⟨rfl,rfl⟩ hl⟩
  clear hw
  walk_nrm
  u_op rg hF
  u_c stepG_region_end rg hF
  u_c stepG_ret' rg hF
  u_leave1 H.f_uAdd rg hF
  u_op rg hF
  u_c stepG_region_end rg hF
  u_c stepG_seq rg hF
  u_c stepG_seq rg hF
  u_reg rg hF
  iterate 4 u_op rg hF
  u_skip rg hF
  u_skip rg hF
  u_op rg hF
  u_c stepG_region_end rg hF
  u_cond false rg hF
  u_c stepG_skip rg hF
  u_c stepG_seq rg hF
  u_reg rg hF
  iterate 4 u_op rg hF
  u_c stepG_region_end rg hF
  u_c stepG_seq rg hF
  u_reg rg hF
  iterate 4 u_op rg hF
  u_c stepG_region_end rg hF
  u_c stepG_seq rg hF
  u_c stepG_seq rg hF
  u_reg rg hF
  iterate 5 u_op rg hF
  u_skip rg hF
  u_skip rg hF
  u_skip rg hF
  u_skip rg hF
  u_op rg hF
  u_c stepG_region_end rg hF
  u_cond false rg hF
  u_c stepG_skip rg hF
  u_c stepG_seq rg hF
  u_c stepG_seq rg hF
  u_reg rg hF
  u_op rg hF
  u_op rg hF
  u_c stepG_region_end rg hF
  u_cond false rg hF
  u_c stepG_skip rg hF
  u_c stepG_seq rg hF
  u_c stepG_seq rg hF
  u_reg rg hF
  iterate 7 u_op rg hF
  u_skip rg hF
  u_skip rg hF
  u_skip rg hF
  u_skip rg hF
  u_op rg hF
  u_c stepG_region_end rg hF
  u_cond false rg hF
  u_c stepG_skip rg hF
  u_c stepG_seq rg hF
  u_c stepG_seq rg hF
  u_reg rg hF
  iterate 6 u_op rg hF
  u_c stepG_region_end rg hF
  u_cond false rg hF
  u_c stepG_skip rg hF
  u_c stepG_seq rg hF
  u_c stepG_seq rg hF
  u_reg rg hF
  iterate 3 u_op rg hF
  u_call H.f_uLoad (nm_uLoad L) uLoadFn rg hF
  u_c stepG_seq rg hF
  u_reg rg hF
  u_op rg hF
  u_c stepG_region_end rg hF
  u_c stepG_seq rg hF
  u_reg rg hF
  iterate 3 u_op rg hF
  refine Goes.stop (fun _ h₁=>Ren.Way.stop rfl (fun _ h₂ h₃=>?_));replace hF:=rg (rg hF h₁) ⟨h₂,h₃⟩;clear h₁ h₂ h₃
  refine fun hw=>⟨_,stepG_load_atomic rfl rfl (by k_ne) rfl H.f_loadU64 (x_loadU64_n L) (x_loadU64_b L) (x_loadU64_x L) .u64 (x_loadU64_f L) rfl hw.cellSt,onway_of 400 hF.live ?_⟩
  clear hw
  walk_nrm
  u_op rg hF
  u_c stepG_region_end rg hF
  u_c stepG_ret' rg hF
  u_leave1 H.f_uLoad rg hF
  u_op rg hF
  u_op rg hF
  u_c stepG_region_end rg hF
  u_cond false rg hF
  u_c stepG_skip rg hF
  u_c stepG_seq rg hF
  u_reg rg hF
  iterate 3 u_op rg hF
  u_call H.f_uStore (nm_uStore L) uStoreFn rg hF
  u_reg rg hF
  iterate 4 u_op rg hF
  refine Goes.stop (fun _ h₁=>Ren.Way.stop rfl (fun _ h₂ h₃=>?_));replace hF:=rg (rg hF h₁) ⟨h₂,h₃⟩;clear h₁ h₂ h₃
  rename_i w₃
  refine fun hw=>?_
  replace hF:=rg_set hCW hW hF (aside_setCell w₃ (stA Wg) (.int .u64 0)) ⟨_,_,hw.setSt _⟩
  refine⟨_,stepG_store_atomic rfl rfl (by k_ne) rfl H.f_storeU64 (x_storeU64_n L) (x_storeU64_b L) (x_storeU64_x L) (x_storeU64_f L) rfl rfl hw.cellSt (hw.thaw 0),onway_of 400 hF.live ?_⟩
  clear hw
  walk_nrm
  u_c stepG_region_end rg hF
  u_c stepG_end rg hF
  u_leave0 H.f_uStore rg hF
  u_c stepG_region_end rg hF
  u_c stepG_seq rg hF
  u_c stepG_seq rg hF
  u_reg rg hF
  u_op rg hF
  u_c stepG_region_end rg hF
  u_cond false rg hF
  u_c stepG_skip rg hF
  u_c stepG_block rg hF
  u_c stepG_loop rg hF
  u_c stepG_seq rg hF
  u_c stepG_seq rg hF
  u_reg rg hF
  u_op rg hF
  u_op rg hF
  u_c stepG_region_end rg hF
  u_cond true rg hF
  u_c stepG_skip rg hF
  u_c stepG_seq rg hF
  u_c stepG_block rg hF
  u_reg rg hF
  iterate 3 u_op rg hF
  refine Goes.stop (fun _ h₁=>Ren.Way.stop rfl (fun _ h₂ h₃=>?_));replace hF:=rg (rg hF h₁) ⟨h₂,h₃⟩;clear h₁ h₂ h₃
  refine⟨mayWake_entry rfl rfl H.f_semrelease (x_semrelease_b L),fun hw=>⟨_,(stepG_semrelease rfl rfl (by k_ne) rfl H.f_semrelease (x_semrelease_n L) (x_semrelease_b L) (x_semrelease_x L) (x_semrelease_f L) (by simp[Act.eval,smA]) hw.cellSm (hw.thaw 1)).trans (by rfl),qt+200,?_⟩⟩
  clear hw hF
  walk_nrm
  with_reducible refine q_regend ?_
  with_reducible refine q_inBlock ?_
  iterate 5 first|with_reducible refine q_seq ?_|with_reducible refine q_regend ?_|with_reducible refine q_nop ?_|((with_reducible refine q_condF ?_ ?_);rfl)|((with_reducible refine q_region ?_);simp only[List.size_toArray,List.length_cons,List.length_nil,Nat.reduceAdd,Nat.zero_add,List.range,List.range.loop])|(refine QuitsD.value _ rfl rfl (by k_ne) (fun _=>by go_simp;(try w_num);first|(simp only[*];rfl)|rfl) (fun _=>by simp[go_sem, *]) ?_;walk_nrm)|q_skip
  with_reducible refine q_inLoop ?_
  iterate 7 first|with_reducible refine q_seq ?_|with_reducible refine q_regend ?_|with_reducible refine q_nop ?_|((with_reducible refine q_condF ?_ ?_);rfl)|((with_reducible refine q_region ?_);simp only[List.size_toArray,List.length_cons,List.length_nil,Nat.reduceAdd,Nat.zero_add,List.range,List.range.loop])|(refine QuitsD.value _ rfl rfl (by k_ne) (fun _=>by go_simp;(try w_num);first|(simp only[*];rfl)|rfl) (fun _=>by simp[go_sem, *]) ?_;walk_nrm)|q_skip
  q_exit
  with_reducible refine q_fin ?_
  q_enable
  q_leave0 H.f_add
  exact quits_le hT (by omega)
 .
  replace hw:WgAt L.tWg Wg w₁ (((v:Nat)+1)*KK+0) 0:=by simpa using hw
  obtain⟨S,hS⟩:∃S:Int,S=(v:Int)*KK+((0:Nat):Int):=⟨_,rfl⟩
  have eS:IntKind.u64.wrap (((v:Nat)+1)*KK+0+18446744069414584320)=S:=by rw[IntKind.wrap_u64,hS];simp only[KK];omega
  rw[←hS]
  have a1:S / 4294967296=(v:Int):=by rw[hS];simp only[KK];omega
  have a2:IntKind.u64.wrap S=S:=by rw[IntKind.wrap_u64,hS];simp only[KK];omega
  have a3:IntKind.u64.wrap (v:Int)=(v:Int):=by rw[IntKind.wrap_u64];omega
  have a4:IntKind.i32.wrap (v:Int)=(v:Int):=by rw[IntKind.wrap_i32];omega
  have b1:bits .and .u64 S 2147483648=0:=by rw[hS];have:=st_flag v 0 (by omega) (by omega);simpa[KK] using this
  have b2:bits .and .u64 S 2147483647=0:=by rw[hS];have:=st_waiters v 0 (by omega) (by omega);simpa[KK] using this
  have q3:decide ((v:Int)<0)=false:=decide_eq_false (by omega)
  have q4:decide (0<(v:Int))=true:=decide_eq_true (by omega)
  have q5:((v:Int)==0)=false:=by simp;omega
  have q6:decide ((v:Int)=0)=false:=decide_eq_false (by omega)
  refine⟨_,(stepG_add_atomic rfl rfl (by k_ne) rfl H.f_addU64 (x_addU64_n L) (x_addU64_b L) (x_addU64_x L) .u64 (x_addU64_f L) rfl rfl hw.cellSt (hw.thaw 0)).trans (by rw[eS];rfl),fun hl=>absurd hl.1 (by omega),fun _=>⟨qt+200,?_⟩⟩
  clear hw hF hS eS
  walk_nrm
  refine QuitsD.value _ rfl rfl (by k_ne) (fun _=>by go_simp;(try w_num);first|(simp only[*];rfl)|rfl) (fun _=>by simp[go_sem, *]) ?_;walk_nrm
  with_reducible refine q_regend ?_
  with_reducible refine q_ret ?_
  q_leave1 H.f_uAdd
  iterate 81 first|with_reducible refine q_seq ?_|with_reducible refine q_regend ?_|with_reducible refine q_nop ?_|((with_reducible refine q_condF ?_ ?_);rfl)|((with_reducible refine q_region ?_);simp only[List.size_toArray,List.length_cons,List.length_nil,Nat.reduceAdd,Nat.zero_add,List.range,List.range.loop])|(refine QuitsD.value _ rfl rfl (by k_ne) (fun _=>by go_simp;(try w_num);first|(simp only[*];rfl)|rfl) (fun _=>by simp[go_sem, *]) ?_;walk_nrm)|q_skip
  (with_reducible refine q_condT ?_ ?_);rfl
  with_reducible refine q_ret ?_
  q_enable
  q_leave0 H.f_add
  exact quits_le hT (by omega)
 .
  replace hw:WgAt L.tWg Wg w₁ (((v:Nat)+1)*KK+1) 0:=by simpa using hw
  obtain⟨S,hS⟩:∃S:Int,S=(v:Int)*KK+((1:Nat):Int):=⟨_,rfl⟩
  have eS:IntKind.u64.wrap (((v:Nat)+1)*KK+1+18446744069414584320)=S:=by rw[IntKind.wrap_u64,hS];simp only[KK];omega
  rw[←hS]
  have a1:S / 4294967296=(v:Int):=by rw[hS];simp only[KK];omega
  have a2:IntKind.u64.wrap S=S:=by rw[IntKind.wrap_u64,hS];simp only[KK];omega
  have a3:IntKind.u64.wrap (v:Int)=(v:Int):=by rw[IntKind.wrap_u64];omega
  have a4:IntKind.i32.wrap (v:Int)=(v:Int):=by rw[IntKind.wrap_i32];omega
  have b1:bits .and .u64 S 2147483648=0:=by rw[hS];have:=st_flag v 1 (by omega) (by omega);simpa[KK] using this
  have b2:bits .and .u64 S 2147483647=1:=by rw[hS];have:=st_waiters v 1 (by omega) (by omega);simpa[KK] using this
  have q3:decide ((v:Int)<0)=false:=decide_eq_false (by omega)
  have q4:decide (0<(v:Int))=true:=decide_eq_true (by omega)
  have q5:((v:Int)==0)=false:=by simp;omega
  have q6:decide ((v:Int)=0)=false:=decide_eq_false (by omega)
  refine⟨_,(stepG_add_atomic rfl rfl (by k_ne) rfl H.f_addU64 (x_addU64_n L) (x_addU64_b L) (x_addU64_x L) .u64 (x_addU64_f L) rfl rfl hw.cellSt (hw.thaw 0)).trans (by rw[eS];rfl),fun hl=>absurd hl.1 (by omega),fun _=>⟨qt+200,?_⟩⟩
  clear hw hF hS eS
  walk_nrm
  refine QuitsD.value _ rfl rfl (by k_ne) (fun _=>by go_simp;(try w_num);first|(simp only[*];rfl)|rfl) (fun _=>by simp[go_sem, *]) ?_;walk_nrm
  with_reducible refine q_regend ?_
  with_reducible refine q_ret ?_
  q_leave1 H.f_uAdd
  iterate 81 first|with_reducible refine q_seq ?_|with_reducible refine q_regend ?_|with_reducible refine q_nop ?_|((with_reducible refine q_condF ?_ ?_);rfl)|((with_reducible refine q_region ?_);simp only[List.size_toArray,List.length_cons,List.length_nil,Nat.reduceAdd,Nat.zero_add,List.range,List.range.loop])|(refine QuitsD.value _ rfl rfl (by k_ne) (fun _=>by go_simp;(try w_num);first|(simp only[*];rfl)|rfl) (fun _=>by simp[go_sem, *]) ?_;walk_nrm)|q_skip
  (with_reducible refine q_condT ?_ ?_);rfl
  with_reducible refine q_ret ?_
  q_enable
  q_leave0 H.f_add
  exact quits_le hT (by omega)
end
end
end Go.Crew
