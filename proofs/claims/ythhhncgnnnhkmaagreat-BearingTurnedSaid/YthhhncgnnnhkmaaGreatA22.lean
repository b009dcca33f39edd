import Derived.Test.YthhhncgnnnhkmaaGreatA19
import Derived.Test.YthhhncgnnnhkmaaGreatA18
set_option linter.all false
namespace Go.Crew
open Go.Conc Go.ConcN Go.Ren Go.RowKit Go.Conc.Lib Go.ConcR.Gen Go.ConcN.Gen
open Go.ConcR (KK wgBlock WgAt stA smA rd wr DC0)
section
variable[Spc][Hidden]{P:Program}{S:FuncId→Prop}{L:WgLink}{Ro:Nat→Prop}{Wg Ch:Nat}{pay:Nat→Option Pay}
end
section
variable[Spc][Hidden]{P:Program}{S:FuncId→Prop}{L:WgLink}{Ro:Nat→Prop}{Wg Ch:Nat}
theorem wait_enter(H:WgLib P L){own Hid:Nat→Prop}{f f0:Nat→Nat}{v w wA:World}{n0:Nat}{End:Goroutine→World→Prop}{fr:Frame}{cs:List Frame}{ops:Array Oper}{i:Nat}{rest:List Nat}{k:List Item}{o:Oper}{x:Operand}{b:Nat}{ats:Array TypeId}(hp:Priv P S Ro own Hid f (G fr cs) v w)(hW:¬Ro Wg∧¬own Wg)(hlive:Live L.tWg Wg Ch w)(hm:fr.mode=.run)(hro:fr.roundOf=none)(hk:fr.kind≠.early)(ht:fr.todo=.inRegion ops (i::rest)::k)(ho:ops[i]?=some o)(hw:Region.wanted o (yielded ops fr.tmps)=true)(hop:o.op=.call {callee:=.value (.func L.wait),args:=#[x],argTypes:=ats})(hx:OpndOK P (Nm S) x)(hv:fr.eval x=.pointer (some ⟨b,0,none⟩))(hb:f b=Wg)(hE:End (G (fr.finish (.tuple #[])) cs) v)(hr:Rely Ro (fun _=>False) wA w)(hag:∀j,j<n0→f j=f0 j)(hn:n0≤v.heap.size):OnWay P Ro (Live L.tWg Wg Ch) true (kM Wg (SKd P L.tWg Wg Ch Ro (Head P S L Ro Hid Wg Ch wA n0 f0 End))) ⟨gorS f [] (G fr cs),w,own⟩:=by
 have e:=at_frame hm hro ht f
 have hw':Region.wanted o (yielded ops (vals f fr.tmps))=true:=by rw[yielded_vals];exact hw
 have hk':(frame f fr).kind≠.early:=hk
 have hfix:=hp.fix
 have hgS:gorS f [] (G fr cs)=G ((frame f fr).at {tmps:=vals f fr.tmps,defers:=fr.defers.map (deferred f)} (.inRegion ops (i::rest)::k.map (item f))) (stk f [] cs):=by rw[←e];rfl
 have hargs:(#[x]:Array Operand).map (Act.eval {tmps:=vals f fr.tmps,defers:=fr.defers.map (deferred f)})=#[.pointer (some ⟨Wg,0,none⟩)]:=by
  rw[act_eval]
  simp only[List.map_toArray,List.map_cons,List.map_nil]
  rw[eval_frame (S:=Nm S) hfix (fun _ _=>rfl) fr hx,hv]
  simp[addr,hb,Frame.eval]
 rw[hgS]
 refine onway_of 2 hlive (Goes.step rfl fun w₁ h₁=>?_)
 refine goes_call ho hw' hk' hop H.f_wait (nm_wait L) rfl ⟨by u_nil,?_⟩
 rw[hargs]
 refine Goes.stop fun w₂ h₂=>?_
 have hfin:G ((frame f fr).at (Act.put {tmps:=vals f fr.tmps,defers:=fr.defers.map (deferred f)} ((ops[i]?).bind (·.dst)) (.tuple #[])) (.inRegion ops rest::k.map (item f))) (stk f [] cs)=gorS f [] (G (fr.finish (.tuple #[])) cs):=by
  have h1:(frame f fr).finish (.tuple #[])=frame f (fr.finish (.tuple #[])):=by
   have:=finish_frame (f:=f) fr (.tuple #[]) hp.ok.gok.frame.items
   rwa[closedB_closed (v:=.tuple #[]) rfl f] at this
  have h2:gorS f [] (G (fr.finish (.tuple #[])) cs)=G (frame f (fr.finish (.tuple #[]))) (stk f [] cs):=rfl
  rw[h2,←h1]
  conv=>rhs;rw[e]
  rw[Frame.finish_at]
 have hput:NamedV S v.heap.size #[.tuple #[]]:=fun H H' h h' _=>by
  unfold vals
  simp only[List.map_toArray,List.map_cons,List.map_nil]
  rw[x_tuple,x_tuple,Array.map_empty,Array.map_empty]
 have hok2:=hp.ok.put hput
 have hp2:Priv P S Ro own Hid f (G (fr.finish (.tuple #[])) cs) v w:=⟨hok2,hp.inj,hp.fix,hp.sim,hp.held⟩
 exact head_start (b₀:=frame f fr) (a₀:={tmps:=vals f fr.tmps,defers:=fr.defers.map (deferred f)}) (ops₀:=ops) (i₀:=i) (rest₀:=rest) (k₀:=k.map (item f)) (w0:=w) H (rg h₁ h₂) hW hE hp2 hfin hr hag hn
end
end Go.Crew
