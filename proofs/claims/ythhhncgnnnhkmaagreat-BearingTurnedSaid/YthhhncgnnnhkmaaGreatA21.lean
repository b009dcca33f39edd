import Derived.Test.YthhhncgnnnhkmaaGreatA20
set_option linter.all false
namespace Go.Crew
open Go.Conc Go.ConcN Go.Ren Go.RowKit Go.Conc.Lib Go.ConcR.Gen Go.ConcN.Gen
open Go.ConcR (KK wgBlock WgAt stA smA rd wr DC0)
section
variable[Hidden]
section
variable{P:Program}{L:WgLink}{Ro own:Nat→Prop}{Wg Ch:Nat}{c:Frame}{cs:List Frame}
set_option maxRecDepth 100000 in
set_option maxHeartbeats 16000000 in
theorem done_deferred(H:WgLib P L)(hCW:Ch≠Wg)(hW:¬Ro Wg∧¬own Wg){w0:World}{qt:Nat}(hcm:c.mode=.returning)(hT:QuitsD P qt 0 (G c cs))(w:World)(hF:RG Ro own L.tWg Wg Ch w0 w):OnWay P Ro (Live L.tWg Wg Ch) false (kQ (SR0 P L.tWg Wg Ch Ro)) ⟨G ((baseD L.done).at ⟨#[.pointer (some ⟨Wg,0,none⟩)]++Array.replicate 3 undef,[]⟩ [.code (body_done L)]) (c::cs),w,own⟩:=by
 lib_facts
 have hA:=@add_neg _ P L Ro own Wg Ch
 refine onway_of 100 hF.live ?_
 simp only[body_done,body_add,doneFn,addFn,Option.getD_some] at hA⊢
 walk_nrm
 u_reg rg hF
 u_op rg hF
 u_call H.f_add (nm_add L) addFn rg hF
 refine Goes.stop fun _ h₁=>?_
 simp only[Act.put,Act.eval,List.map_toArray,List.map_cons,List.map_nil,Array.getD_eq_getD_getElem?,List.getElem?_toArray,List.getElem?_cons_succ,List.getElem?_cons_zero,Option.getD_some,Option.bind_some,List.size_toArray,List.length_cons,List.length_nil,Nat.reduceAdd,Nat.reduceSub,Array.replicate_succ,Array.replicate_zero,List.push_toArray,List.append_toArray,List.nil_append,List.cons_append,List.setIfInBounds_toArray,List.set_cons_succ,List.set_cons_zero,List.getElem_toArray,List.getElem_cons_succ,List.getElem_cons_zero] at hA
 refine hA H hCW hW (qt:=qt+3) ?_ _ (rg hF h₁)
 q_c stepG_region_end
 q_c stepG_end
 exact QuitsD.leaveD rfl rfl H.f_done rfl hcm hT
end
end
end Go.Crew
