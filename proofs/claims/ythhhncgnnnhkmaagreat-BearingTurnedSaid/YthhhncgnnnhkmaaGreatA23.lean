import Derived.Test.YthhhncgnnnhkmaaGreatA08
import Derived.Test.YthhhncgnnnhkmaaGreatA13
import Derived.Test.YthhhncgnnnhkmaaGreatA16
set_option linter.all false
namespace Go.Ev
open Go.Conc Go.Ren
section
variable[M:Mps]{P:Program}{L N:List FuncId}
def Stays(v v':World):Prop:=∀(b:Nat) (o:Obj),v.heap[b]?=some o→chanB o=true→∀o':Obj,v'.heap[b]?=some o'→chanB o'=true
theorem Stays.of{v v':World}(h:v'.heap=v.heap):Stays v v':=fun b o h1 h2 o' h3=>by
 rw[h,h1] at h3
 rw[←Option.some.inj h3];exact h2
theorem Stays.of_stp{ρ ρ':Nms}{h h':H}{v v':World}(s:Stp ρ h v ρ' h' v')(hr:HR ρ h v)(hu:Unb ρ h.next h'.next):Stays v v':=fun b o h1 h2 o' h3=>by
 obtain⟨l,_,f1,_,o1,_,_⟩:=s.log
 have h4:=f1 b o h1 fun c k hc hat=>by
  rcases o1 c hc with h5|⟨h5,h6⟩
  .obtain⟨ob,h7⟩:=Option.isSome_iff_exists.1 h5
   obtain⟨x,k',o2,h8,h9,h10⟩:=hr.ob c ob h7
   rw[hat] at h8
   cases h8
   rw[h1] at h9
   cases h9
   cases ob with
   |cells=>obtain⟨_,_,rfl,_⟩:=h10;cases h2
   |map=>obtain⟨rfl,_⟩:=h10;cases h2
   |iter=>obtain⟨_,rfl,_⟩:=h10;cases h2
   |loop=>obtain⟨_,_,rfl,_⟩:=h10;cases h2
   |calls=>have e:o=_:=h10;subst e;cases h2
   |bag=>obtain⟨_,_,_,_,rfl,_⟩:=h10;cases h2
   |sack=>obtain⟨_,_,_,_,rfl,_⟩:=h10;cases h2
   |half=>obtain⟨_,_,_,_,_,rfl,_⟩:=h10;cases h2
   |shut=>obtain⟨_,_,_,rfl,_⟩:=h10;cases h2
  .rw[hu c h5 h6] at hat;cases hat
 rw[h4] at h3
 rw[←Option.some.inj h3];exact h2
def Ups(P:Program)(L N:List FuncId)(K:Frame→List Frame→World→Prop):Prop:=
 ∀fr cs v,@LTree _ (spOf P L N) P (·∈L) (fun g v'=>∃fr' cs',g=G fr' cs'∧K fr' cs' v'∧Stays v v') (G fr cs) v→K fr cs v
def Stk(cs:List Frame):Prop:=∃l,cs=l++[bottom]
theorem Stk.ne{cs:List Frame}(h:Stk cs):cs≠[]:=by obtain⟨l,rfl⟩:=h;simp
theorem Stk.cons{cs:List Frame}(h:Stk cs)(c:Frame):Stk (c::cs):=by obtain⟨l,rfl⟩:=h;exact⟨c::l,rfl⟩
variable{K:Frame→List Frame→World→Prop}
theorem Ups.own(hK:Ups P L N K){fr:Frame}{cs:List Frame}{v:World}(hf:@Fit (spOf P L N) P (G fr cs))(h:∀t,∃fr' cs' v' es,stepG P true (G fr cs) (wt v t)=.go (G fr' cs') v' es∧notPanicking fr'.mode∧Stk cs'∧(Ren.Clean (·∈L) v→Ren.Clean (·∈L) v')∧Stays v v'∧K fr' cs' v'):K fr cs v:=by
 have h1:=fun t=>Classical.choose_spec (h t)
 have h2:=fun t=>Classical.choose_spec (h1 t)
 have h3:=fun t=>Classical.choose_spec (h2 t)
 have h4:=fun t=>Classical.choose_spec (h3 t)
 exact hK fr cs v (@LTree.step _ (spOf P L N) _ _ _ _ _ hf (fun t=>G (Classical.choose (h t)) (Classical.choose (h1 t))) (fun t=>Classical.choose (h2 t)) (fun t=>Classical.choose (h3 t)) (fun t=>(h4 t).1)
  (fun t=>⟨rfl,.inl rfl,(h4 t).2.1⟩) (fun t=>(h4 t).2.2.2.1) (fun t=>(h4 t).2.2.1) (fun _=>rfl) (fun t=>@LTree.done _ (spOf P L N) _ _ _ _ _ ⟨_,_,rfl,(h4 t).2.2.2.2.2,(h4 t).2.2.2.2.1⟩))
theorem Ups.call(hK:Ups P L N K){fn:FuncId}{args:Array Value}{c:Frame}{cs:List Frame}{v:World}{Post:Value→World→Prop}(hfn:fn∈L)(hargs:CleanV (·∈L) args)(hcs:cs≠[])(hP:∀x v t,Post x v→Post x (wt v t))(hc:∀t,Calls P fn args (wt v t) fun e w'=>∃x,e=.returned x∧Post x w')(hst:∀x v',Post x v'→Stays v v')(next:∀x v',Post x v'→K (c.finish x) cs v'):K (Frame.enter P fn args .normal) (c::cs) v:=
 hK _ _ _ (@LTree.call _ (spOf P L N) _ _ _ _ _ _ _ _ Post hfn hargs hcs hP hc fun x v' hp _=>@LTree.done _ (spOf P L N) _ _ _ _ _ ⟨_,_,rfl,next x v' hp,hst x v' hp⟩)
theorem go_gives{b:Frame}{a:Act}{k:List Item}{cs:List Frame}{w w':World}{ops:Array Oper}{i:Nat}{rest:List Nat}{o:Oper}{M:Next}{v:Value}(ho:ops[i]?=some o)(hw:Region.wanted o (yielded ops a.tmps)=true)(hd:∀c,o.op≠.defer c)(hr:(execOp a.eval o).run P w=.ok M w')(hN:Gives M v):∃es,stepG P true (G (b.atR a (.inRegion ops (i::rest)::k)) cs) w=.go (G (b.atR (a.put o.dst v) (.inRegion ops rest::k)) cs) w' es:=by
 have hf:=Frame.finish_atR b a ops i rest k v
 rw[ho] at hf
 simp only[Option.bind_some] at hf
 have h1:=stepGR_op (P:=P) (b:=b) (a:=a) (k:=k) (cs:=cs) (w:=w) (rest:=rest) ho hw
 unfold Conc.G
 rw[h1,Oper.semAt_eq _ _ _ hd,←hf]
 rcases hN with rfl|⟨rfl,rfl⟩
 .simp only[stepG.apply,Sem.runT_eq,hr,if_true,GStep.after]
  exact⟨_,rfl⟩
 .simp only[stepG.apply,Sem.runT_eq,hr,if_true,GStep.after]
  exact⟨_,rfl⟩
def noOp:Item→Bool
 |.inRegion _ []=>true
 |.inRegion _ (_::_)=>false
 |.code c=>match c with|.rangeFunc ..=>false|_=>true
 |.call ..=>false
 |_=>true
theorem fit_at_item{b:Frame}{a:Act}{cs:List Frame}{i:Item}{k:List Item}(hi:noOp i=true):@Fit (spOf P L N) P (G (b.atR a (i::k)) cs):=by
 refine @fit_item _ P (spOf P L N) _ _ _ _ rfl rfl ?_
 cases i with
 |inRegion ops l=>cases l<;>simp_all [noOp]
 |code c=>cases c<;>simp_all [noOp]
 |call=>simp_all [noOp]
 |_=>trivial
theorem fit_at_op{b:Frame}{a:Act}{cs:List Frame}{k:List Item}{ops:Array Oper}{i:Nat}{rest:List Nat}{o:Oper}(ho:ops[i]?=some o)(hc:isCall o.op=false)(hb:bOper P L o=true):@Fit (spOf P L N) P (G (b.atR a (.inRegion ops (i::rest)::k)) cs):=
 fit_oper rfl rfl ho hc hb
theorem Ups.text(hK:Ups P L N K){b:Frame}{a:Act}{k k':List Item}{cs:List Frame}{w:World}(hcs:Stk cs)(hf:@Fit (spOf P L N) P (G (b.atR a k) cs))(h:∀w:World,∃es,stepG P true (G (b.atR a k) cs) w=.go (G (b.atR a k') cs) w es)(hk:∀t,K (b.atR a k') cs (wt w t)):K (b.atR a k) cs w:=
 hK.own hf fun t=>by
  obtain⟨es,e⟩:=h (wt w t)
  exact⟨_,_,_,es,e,trivial,hcs,fun hc=>Ren.clean_same hc rfl,.of rfl,hk t⟩
mutual
def cleanB(L:List FuncId):Value→Bool
 |.func (.func f) ⟨a⟩ ⟨b⟩=>L.contains f&&cleansB L a&&cleansB L b
 |.func _ _ _=>false
 |.agg ⟨cs⟩|.tuple ⟨cs⟩=>cleansB L cs
 |.iface _ _=>false
 |_=>true
def cleansB(L:List FuncId):List Value→Bool
 |[]=>true
 |v::l=>cleanB L v&&cleansB L l
end
theorem clean_atom{v:Value}(h:atom v=true):CleanX (·∈L) v:=by
 cases v with
 |pointer a=>exact cleanX_pointer a
 |slice a l c=>exact cleanX_slice a l c
 |map a=>exact cleanX_map a
 |chan a=>exact cleanX_chan a
 |bool b=>exact cleanX_bool b
 |int k n=>exact cleanX_int k n
 |string b=>exact cleanX_string b
 |float k b=>exact cleanX_closed rfl
 |complex k a b=>exact cleanX_closed rfl
 |nilFunc=>exact cleanX_closed rfl
 |nilIface=>exact cleanX_closed rfl
 |func _ _ _=>cases h
 |iface _ _=>cases h
 |agg _=>cases h
 |tuple _=>cases h
mutual
theorem VR.clean{ρ:Nms}:∀{v v':Value},VR ρ v v'→cleanB L v=true→CleanX (·∈L) v'
 |_,_,.same h,_=>clean_atom h
 |_,_,.ptr _,_=>cleanX_pointer _
 |_,_,.slice _ _,_=>cleanX_slice _ _ _
 |_,_,.map _,_=>cleanX_map _
 |_,_,.func ha hb,h=>by
  simp only[cleanB,Bool.and_eq_true] at h
  exact cleanX_func (by simpa using h.1.1) (fun x hx=>VRs.clean ha h.1.2 x (by simpa using hx)) (fun x hx=>VRs.clean hb h.2 x (by simpa using hx))
 |_,_,.yield _,h=>by simp[cleanB] at h
 |_,_,.chan _,_=>cleanX_chan _
 |_,_,.agg hs,h=>cleanX_agg fun x hx=>VRs.clean hs (by simpa[cleanB] using h) x (by simpa using hx)
 |_,_,.tuple hs,h=>cleanX_tuple fun x hx=>VRs.clean hs (by simpa[cleanB] using h) x (by simpa using hx)
theorem VRs.clean{ρ:Nms}:∀{l l':List Value},VRs ρ l l'→cleansB L l=true→∀x∈l',CleanX (·∈L) x
 |_,_,.nil,_,x,hx=>by simp at hx
 |_,_,.cons hv hs,h,x,hx=>by
  simp only[cleansB,Bool.and_eq_true] at h
  rcases List.mem_cons.1 hx with rfl|hx
  .exact hv.clean h.1
  .exact VRs.clean hs h.2 x hx
end
end
section
variable[M:Mps]{P:Program}{L N:List FuncId}
theorem setCell_heap(w:World)(a:Addr)(v:Value)(b:Nat)(o:Obj)(h:(w.setCell a v).heap[b]?=some o):w.heap[b]?=some o ∨ ∃c e fz,w.heap[b]?=some (.cells c e fz)∧o=.cells (if a.spot.isSome then c else c.setIfInBounds a.off v) e fz:=by
 unfold World.setCell at h
 rw[Array.getElem?_modify] at h
 split at h
 .cases hb:w.heap[b]? with
  |none=>rw[hb] at h;cases h
  |some o0=>
   rw[hb] at h
   simp only[Option.map_some,Option.some.injEq] at h
   cases o0 with
   |cells c e fz=>exact .inr ⟨c,e,fz,rfl,h.symm⟩
   |_=>exact .inl (by rw[←h])
 .exact .inl h
theorem clean_setCell{S:FuncId→Prop}{w:World}{a:Addr}{v:Value}(hw:Ren.Clean S w)(hv:CleanX S v):Ren.Clean S (w.setCell a v):=fun H H' h e b o hb=>by
 rcases setCell_heap w a v b o hb with hb2|⟨c,el,fz,hb2,rfl⟩
 .exact hw H H' h e b o hb2
 .have h1:=hw H H' h e b _ hb2
  have h1':@vals _ H noExt h c=@vals _ H' noExt h c:=by
   have:Obj.cells (@vals _ H noExt h c) el fz=Obj.cells (@vals _ H' noExt h c) el fz:=h1
   injection this
  split
  .exact h1
  .show Obj.cells (@vals _ H noExt h (c.setIfInBounds a.off v)) el fz=Obj.cells (@vals _ H' noExt h (c.setIfInBounds a.off v)) el fz
   have h2:∀(X:Fr),@vals _ X noExt h (c.setIfInBounds a.off v)=(@vals _ X noExt h c).setIfInBounds a.off (@val _ X noExt h v):=fun X=>by
    unfold vals
    rw[Array.map_setIfInBounds]
   rw[h2 H,h2 H',h1',hv H H' h e]
theorem clean_storeCells{S:FuncId→Prop}{a:Addr}:∀(vs:List Value) (i:Nat) (w w':World),(∃c e fz,w.heap[a.block]?=some (.cells c e fz))→(∀v∈vs,CleanX S v)→(storeCells a vs i).run P w=.ok () w'→Ren.Clean S w→Ren.Clean S w'
 |[],i,w,w',_,_,h,hc=>by
  simp[storeCells] at h
  rw[←h];exact hc
 |v::vs,i,w,w',⟨c,e,fz,hb⟩,hv,h,hc=>by
  simp only[storeCells,Sem.run_bind] at h
  have hblk:(a.add i).block=a.block:=by
   unfold Addr.add
   split<;>rfl
  have key:(store (a.add i) v).run P w=.ok () (w.setCell (a.add i) v) ∨ ∃hh w1,(store (a.add i) v).run P w=.halt hh w1:=by
   unfold store
   cases v with
   |agg _=>exact .inr ⟨_,_,rfl⟩
   |tuple _=>exact .inr ⟨_,_,rfl⟩
   |_=>
    simp only[Sem.run]
    split
    .split
     .exact .inr ⟨_,_,rfl⟩
     .exact .inl rfl
    .have hfar:∀x,w.farStore P (a.add i) x (Mode.plain==.atomic)=.error (w.noCell (a.add i) "store: no such cell"):=fun x=>by
      unfold World.farStore
      rw[hblk,hb]
     rw[hfar]
     exact .inr ⟨_,_,rfl⟩
  rcases key with key|⟨hh,w1,key⟩
  .rw[key] at h
   simp only[Result.andThen] at h
   refine clean_storeCells vs (i+1) _ w' ?_ (fun u hu=>hv u (by simp[hu])) h (clean_setCell hc (hv v (by simp)))
   unfold World.setCell
   rw[hblk,Array.getElem?_modify,if_pos rfl,hb]
   exact⟨_,_,_,rfl⟩
  .rw[key] at h;simp[Result.andThen] at h
end
section
variable[M:Mps]{P:Program}{L N:List FuncId}{ρ:Nms}{ρE:Operand→Option Value}{ρr:Operand→Value}
def DoesC(P:Program)(L:List FuncId)(ρ:Nms)(h:H)(w:World)(s:Sem Next)(v:Value)(h':H):Prop:=
 ∃n v' w' ρ',s.run P w=.ok n w'∧Gives n v'∧Stp ρ h w ρ' h' w'∧HR ρ' h' w'∧VR ρ' v v'∧(Ren.Clean (·∈L) w→Ren.Clean (·∈L) w')
def cleanO?(L:List FuncId)(x:Option Value):Bool:=match x with|some v=>cleanB L v|none=>false
def cOp(P:Program)(L:List FuncId)(t:T Value)(o:Oper):Bool:=bOper P L o && !isCall o.op&&(match o.op with
 |.load .. | .alloc _=>true
 |.box _ x=>cleanO? L (evalO t x)
 |.store _ _ y=>cleanO? L (evalO t y)
 |.buildSlice _ _ ps=>ps.toList.all fun p=>cleanO? L (evalO t p.2)
 |o=>pureB o)
theorem flat_clean{v:Value}(h:flat v=true):CleanX (·∈L) v:=by
 have key:∀v:Value,flat v=true→CleanX (·∈L) v:=fun v h=>by
  have hh:=flat_self (ρ:=fun _=>.dead) h
  have:cleanB L v=true:=by
   clear hh
   exact flat_cleanB v h
  exact hh.clean this
 exact key v h
where
 flat_cleanB:∀v:Value,flat v=true→cleanB L v=true:=by
  intro v h
  exact(cl v).1 h
 cl:∀v:Value,(flat v=true→cleanB L v=true)∧True:=fun v=>⟨fun h=>fcb v h,trivial⟩
 fcb:∀v:Value,flat v=true→cleanB L v=true
  |.bool _,_|.int _ _,_|.string _,_|.nilFunc,_|.nilIface,_|.pointer none,_|.map none,_|.chan none,_|.slice none _ _,_=>rfl
  |.agg ⟨cs⟩,h=>by simp only[cleanB];exact fcbs cs (by simpa[flat] using h)
  |.tuple ⟨cs⟩,h=>by simp only[cleanB];exact fcbs cs (by simpa[flat] using h)
  |.float _ _,h|.complex _ _ _,h|.func _ _ _,h|.iface _ _,h=>by simp[flat] at h
  |.pointer (some _),h|.map (some _),h|.chan (some _),h|.slice (some _) _ _,h=>by simp[flat] at h
 fcbs:∀l:List Value,flats l=true→cleansB L l=true
  |[],_=>rfl
  |v::l,h=>by
   simp only[flats] at h
   split at h
   .rename_i hv
    simp only[cleansB,Bool.and_eq_true]
    exact⟨fcb v hv,fcbs l h⟩
   .cases h
theorem cells_clean{v:Value}(h:flat v=true):∀x∈v.cells.toList,CleanX (·∈L) x:=fun x hx=>by
 have h1:=(flat_self (ρ:=fun _=>.dead) h)
 refine VRs.clean h1.cells ?_ x hx
 cases v with
 |agg cs=>obtain⟨cs⟩:=cs;exact flat_clean.fcbs cs (by simpa[flat] using h)
 |_=>simp only[Value.cells,List.toList_toArray]<;>first|(simp only[cleansB,Bool.and_true];exact flat_clean.fcb _ h)|(simp[cleansB];exact flat_clean.fcb _ h)
theorem vr_cells_clean{v v':Value}(h:VR ρ v v')(hc:cleanB L v=true):∀x∈v'.cells.toList,CleanX (·∈L) x:=fun x hx=>by
 refine VRs.clean h.cells ?_ x hx
 cases v with
 |agg cs=>obtain⟨cs⟩:=cs;simpa[cleanB,Value.cells] using hc
 |_=>simp[Value.cells,cleansB,hc]
theorem clean_row{w:World}{c:Array Value}{e:TypeId}(hc:∀x∈c,CleanX (·∈L) x)(hw:Ren.Clean (·∈L) w):Ren.Clean (·∈L) (w.alloc (.cells c e)):=clean_push hw (cleanO_cells hc) rfl
theorem cleanO_get{x:Option Value}(h:cleanO? L x=true):∃v,x=some v∧cleanB L v=true:=by
 cases x with
 |none=>cases h
 |some v=>exact⟨v,rfl,h⟩
theorem fold_clean{S:FuncId→Prop}(off:Nat):∀(l:List (Value×Nat)) (cs:Array Value),(∀x∈cs,CleanX S x)→(∀p∈l,CleanX S p.1)→∀x∈l.foldl (fun cs (c,j)=>cs.setIfInBounds (off+j) c) cs,CleanX S x
 |[],cs,h,_,x,hx=>h x hx
 |p::l,cs,h,hl,x,hx=>by
  refine fold_clean off l _ (fun y hy=>?_) (fun q hq=>hl q (by simp[hq])) x hx
  obtain⟨j,hj⟩:=Array.getElem?_of_mem hy
  rw[Array.getElem?_setIfInBounds] at hj
  split at hj
  .split at hj
   .cases hj;exact hl p (by simp)
   .cases hj
  .exact h y (Array.mem_of_getElem? hj)
theorem fill_clean{S:FuncId→Prop}{pl:Nat→Option (Nat×Nat)}:∀{ps:List (Nat×Value)} {cs r:Array Value},Instr.fill pl cs ps=some r→(∀x∈cs,CleanX S x)→(∀p∈ps,∀x∈p.2.cells,CleanX S x)→∀x∈r,CleanX S x
 |[],cs,r,e,h,_=>by simp[Instr.fill] at e;subst e;exact h
 |(i,v)::ps,cs,r,e,h,hp=>by
  simp only[Instr.fill] at e
  split at e
  .cases e
  .rename_i off size hpl
   split at e
   .cases e
   .refine fill_clean e ?_ fun p hp'=>hp p (by simp[hp'])
    intro x hx
    have hx':x∈v.cells.zipIdx.toList.foldl (fun cs (c,j)=>cs.setIfInBounds (off+j) c) cs:=by rw[←Array.foldl_toList] at hx;exact hx
    refine fold_clean _ _ _ h (fun p hp'=>?_) x hx'
    have h1:p∈v.cells.zipIdx:=Array.mem_toList_iff.1 hp'
    have h2:p.1∈v.cells:=by
     obtain⟨p1,p2⟩:=p
     exact Array.mem_of_getElem? (Array.mem_zipIdx_iff_getElem?.1 h1)
    exact hp (i,v) (by simp) p.1 h2
theorem repeated_mem{α:Type}{z:List α}{x:α}:∀{n:Nat},x∈repeated z n→x∈z
 |0,h=>by simp[repeated] at h
 |n+1,h=>by
  rw[repeated,List.mem_append] at h
  exact h.elim id repeated_mem
set_option maxHeartbeats 1000000 in
theorem own_heap{t:T Value}{o:Oper}{h h':H}{w:World}{v:Value}{n:Nat}{a:Act}(hc:cOp P L t o=true)(hp:pureB o.op=false)(ht:TR ρ n t a.tmps)(hr:HR ρ h w)(e:heapO P (evalO t) o.op h=some (v,h'))(hu:∀b,h.next≤b→b<h'.next→ρ b=.unborn):DoesC P L ρ h w (execOp a.eval o) v h':=by
 have hE:=env_of ht
 unfold cOp at hc
 simp only[Bool.and_eq_true] at hc
 obtain⟨_,hc⟩:=hc
 unfold execOp
 cases hop:o.op<;>rw[hop] at e hc hp<;>simp only[heapO] at e<;>try (first|(cases e;done)|(simp only[heapV] at e;cases e;done)|(exfalso;have hc2:=hc;dsimp only at hc2;rw[hp] at hc2;cases hc2;done))
 case alloc t=>
  have e:=one_inv e
  simp only[heapV] at e
  split at e
  .rename_i z hz
   obtain⟨b,e1,rfl⟩:=made_inv e
   obtain⟨hzr,hzf⟩:=zero_ok hz w
   have hzv:VRs ρ z.cells.toList z.cells.toList:=(flat_self hzf).cells
   obtain⟨ρ',s1,s2,_,s4⟩:=row_new hr hzv e1 hu
   refine⟨_,.pointer (some ⟨w.heap.size,0,none⟩),_,ρ',?_,.inl rfl,s1,s2,.ptr s4,clean_row fun x hx=>cells_clean hzf x (by simpa using hx)⟩
   simp[Instr.alloc,hzr,newVar,newRow]
  .cases e
 case box t x=>
  have e:=one_inv e
  simp only[heapV] at e
  split at e
  .rename_i u hx
   split at e
   .obtain⟨b,e1,rfl⟩:=made_inv e
    have hv:=(env_one hE hx).cells
    obtain⟨u',hu',hcl⟩:=cleanO_get hc
    obtain rfl:u=u':=by rw[hx] at hu';exact Option.some.inj hu'
    obtain⟨ρ',s1,s2,_,s4⟩:=row_new hr hv e1 hu
    refine⟨_,.pointer (some ⟨w.heap.size,0,none⟩),_,ρ',?_,.inl rfl,s1,s2,.ptr s4,clean_row fun y hy=>vr_cells_clean (env_one hE hx) hcl y (by simpa using hy)⟩
    simp[Instr.box,newVar,newRow]
   .cases e
  .cases e
 case load t x=>
  have e:=one_inv e
  simp only[heapV] at e
  split at e
  .rename_i b hx
   split at e
   .rename_i u hl
    cases e
    obtain⟨a',hx',ha⟩:=(env_one hE hx).inv_ptr
    obtain⟨v',h1,h2⟩:=loadV_ok hr ha hl
    exact⟨_,v',w,ρ,by simp[Instr.loadAt,Instr.sureAddr,hx',h1],.inl rfl,.refl ρ h w w rfl,hr,h2,id⟩
   .cases e
  .cases e
 case store t x y=>
  have e:=one_inv e
  simp only[heapV] at e
  split at e
  .rename_i b u hx hy
   obtain⟨e1,rfl⟩:=done_inv e
   obtain⟨a',hx',ha⟩:=(env_one hE hx).inv_ptr
   have hvr:=env_one hE hy
   obtain⟨w',h1,h2,h3⟩:=storeV_ok hr ha hvr e1
   obtain⟨u',hu',hcl⟩:=cleanO_get hc
   obtain rfl:u=u':=by rw[hy] at hu';exact Option.some.inj hu'
   refine⟨_,undef,w',ρ,by simp[Instr.storeAt,Instr.sureAddr,hx',h1],.inr ⟨rfl,rfl⟩,h2,h3,undef_rel,fun hcw=>?_⟩
   have hb:∃c e fz,w.heap[a'.block]?=some (.cells c e fz):=by
    unfold storeV at e1
    split at e1
    .split at e1
     .unfold stores at e1
      split at e1
      .rename_i hg _ _
       obtain⟨k,d,r,_,k2,_⟩:=row_of hr hg ha.block
       exact⟨_,_,_,k2⟩
      .rename_i hg _ _
       obtain⟨x0,k,o',q1,q2,p,d,d2,r,_,rfl,_⟩:=hr.ob _ _ hg
       obtain rfl:=ha.block.at_ q1
       exact⟨_,_,_,q2⟩
      .cases e1
     .cases e1
    .cases e1
   have hst:∃w1,(storeCells a' (a.eval y).cells.toList).run P w=.ok () w1∧w1=w':=by
    unfold storeVar at h1
    simp only[Sem.run_bind] at h1
    cases hz:(Go.sizeOf t).run P w with
    |halt hh w1=>rw[hz] at h1;simp[Result.andThen] at h1
    |ok sz w1=>
     have hw1:w1=w:=by
      unfold Go.sizeOf typeInfo at hz
      simp only[Sem.run_bind,run_program,Result.andThen] at hz
      cases hi:P.info? t with
      |none=>rw[hi] at hz;simp[stuck,Sem.run,Result.andThen] at hz
      |some i=>rw[hi] at hz;simp at hz;exact hz.2.symm
     subst hw1
     rw[hz] at h1
     simp only[Result.andThen] at h1
     by_cases hne:(a.eval y).cells.size=sz
     .simp[hne] at h1
      exact⟨w',h1,rfl⟩
     .simp[hne,stuck,Sem.run,Result.andThen] at h1
   obtain⟨w1,hst,rfl⟩:=hst
   exact clean_storeCells _ 0 w w1 hb (fun x hx=>vr_cells_clean hvr hcl x hx) hst hcw
  .cases e
 case buildSlice t len ps=>
  have e:=one_inv e
  simp only[heapV] at e
  split at e
  .rename_i vs el hvs htt
   split at e
   .rename_i j z hj hz
    split at e
    .rename_i h1 h2 h3
     split at e
     .rename_i cs hf
      obtain⟨b,e1,rfl⟩:=made_inv e
      have h1:=Nat.le_of_ble_eq_true h1
      have h2:=Nat.eq_of_beq_eq_true h2
      have h3:j.size≠0:=fun e0=>by rw[e0] at h3;cases h3
      obtain⟨hzr,hzf⟩:=zero_ok hz w
      have hzs:z.cells.size=j.size:=by rw[←h2];simp
      obtain⟨r',f1,f2⟩:=fill_ok (fun i=>some (i*j.size,j.size)) (ps:=ps.toList.map (·.1)) (hE.opts hvs) (vrs_refl_repeated (ρ:=ρ) hzf len) hf
      obtain⟨ρ',s1,s2,_,s4⟩:=row_new hr f2 e1 hu
      have hps:(ps.map fun(i,x)=>(i,a.eval x)).toList=(ps.toList.map (·.1)).zip (((ps.toList.map (·.2))).map a.eval):=by
       rw[map_snd,List.map_map];rfl
      have hf':Instr.fill (fun i=>some (i*j.size,j.size)) ⟨repeated z.cells.toList len⟩ (ps.map fun(i,x)=>(i,a.eval x)).toList=some r':=by rw[hps];exact f1
      have hrun:=run_buildSlice (ps:=ps.map fun(i,x)=>(i,a.eval x)) w htt hj hzr hzs h3 h1 hf'
      have hlen:len≤len*j.size:=Nat.le_mul_of_pos_right _ (by omega)
      refine⟨_,.slice (some ⟨w.heap.size,0,none⟩) len len,_,ρ',by simp[hrun],.inl rfl,s1,s2,.slice s4 (.inl ⟨by unfold soft;omega,rfl⟩),clean_row ?_⟩
      refine fill_clean hf' (fun x hx=>cells_clean hzf x (repeated_mem (by simpa using hx))) fun p hp' x hx=>?_
      obtain⟨q,hq,rfl⟩:∃q∈ps,(q.1,a.eval q.2)=p:=by simpa using hp'
      have hcl:=List.all_eq_true.1 hc q (by simpa using hq)
      obtain⟨u,hu',hcu⟩:=cleanO_get hcl
      exact vr_cells_clean (env_one hE hu') hcu x (by simpa using hx)
     .cases e
    .cases e
   .cases e
  .cases e
end
section
variable[M:Mps]{P:Program}{L N:List FuncId}{K:Frame→List Frame→World→Prop}
theorem wt_heap(w:World)(t:Nat→Question→Nat):(wt w t).heap=w.heap:=rfl
theorem Ups.op(hK:Ups P L N K){ρ:Nms}{n:Nat}{t:T Value}{h h':H}{o:Oper}{v:Value}{ops:Array Oper}{i:Nat}{rest:List Nat}{b:Frame}{a:Act}{k:List Item}{cs:List Frame}{w:World}(e:(if pureB o.op then(pureV P (evalO t) o.op).map fun v=>(v,h) else heapO P (evalO t) o.op h)=some (v,h'))(hc:cOp P L t o=true)(ho:ops[i]?=some o)(hw:Region.wanted o (yielded ops a.tmps)=true)(ht:TR ρ n t a.tmps)(hr:HR ρ h w)(hu:Unb ρ h.next h'.next)(hcs:Stk cs)(hk:∀ρ' v' w',Stp ρ h w ρ' h' w'→HR ρ' h' w'→VR ρ' v v'→K (b.atR (a.put o.dst v') (.inRegion ops rest::k)) cs w'):K (b.atR a (.inRegion ops (i::rest)::k)) cs w:=by
 have hcc:=hc
 unfold cOp at hcc
 simp only[Bool.and_eq_true,Bool.not_eq_true'] at hcc
 obtain⟨⟨hb,hcall⟩,_⟩:=hcc
 have hnd:∀c,o.op≠.defer c:=fun c hh=>by
  split at e
  .cases hp:pureV P (evalO t) o.op with
   |none=>rw[hp] at e;cases e
   |some u=>exact pure_not_defer hp c hh
  .exact heap_not_defer e c hh
 refine hK.own (fit_at_op ho hcall hb) fun tp=>?_
 have hr':HR ρ h (wt w tp):=hr.heap (wt_heap w tp)
 have does:DoesC P L ρ h (wt w tp) (execOp a.eval o) v h':=by
  split at e
  .cases hp:pureV P (evalO t) o.op with
   |none=>rw[hp] at e;cases e
   |some u=>
    rw[hp] at e
    cases e
    obtain⟨v',q1,q2⟩:=pure_ok (o:=o) (env_of ht) hp (wt w tp)
    exact⟨_,v',_,ρ,q1,.inl rfl,.refl ρ h _ _ rfl,hr',q2,id⟩
  .rename_i hp
   exact own_heap hc (by simpa using hp) ht hr' e hu
 obtain⟨M,v',w',ρ',q1,q2,q3,q4,q5,q6⟩:=does
 obtain⟨es,hst⟩:=go_gives (b:=b) (k:=k) (cs:=cs) (rest:=rest) ho hw hnd q1 q2
 exact⟨_,_,w',es,hst,trivial,hcs,fun hcl=>q6 (Ren.clean_same hcl (wt_heap w tp)),.of_stp (q3.heap (wt_heap w tp)) hr hu,hk ρ' v' w' (q3.heap (wt_heap w tp)) q4 q5⟩
theorem go_enter{b:Frame}{a:Act}{k:List Item}{cs:List Frame}{w:World}{ops:Array Oper}{i:Nat}{rest:List Nat}{o:Oper}{f:FuncId}{fn:Func}{c:Code}{xs:Array Operand}{ats:Array TypeId}(ho:ops[i]?=some o)(hw:Region.wanted o (yielded ops a.tmps)=true)
  (hop:o.op=.call {callee:=.value (.func f),args:=xs,argTypes:=ats}) (hf:P.funcs[f]?=some fn) (hb:fn.body=some c) (hname:(fn.name == "runtime.NumGoroutine")=false) :
  ∃es,stepG P true (G (b.atR a (.inRegion ops (i::rest)::k)) cs) w=.go (G (Frame.enter P f (xs.map a.eval) .normal) (b.atR a (.inRegion ops (i::rest)::k)::cs)) w es:=by
 have hd:∀c,o.op≠.defer c:=fun c=>by rw[hop];simp
 have h1:=stepGR_op (P:=P) (b:=b) (a:=a) (k:=k) (cs:=cs) (w:=w) (rest:=rest) ho hw
 have hrun:(execOp a.eval o).run P w=.ok (.enter f (xs.map a.eval)) w:=by
  unfold execOp
  rw[hop]
  show(do let d ← resolve a.eval _ o.type;invoke d.target d.args:Sem Next).run P w=_
  unfold resolve
  have hc:=run_callFunc_body hf hname hb (xs.map a.eval) w
  simp only[Act.eval,Deferred.ofValue,Sem.run_bind,Sem.run_pure,Result.andThen,invoke]
  have e1:(#[]:Array Value)++xs.map a.eval++#[]=xs.map a.eval:=by simp
  show(callFunc f ((#[]:Array Value)++xs.map a.eval++#[])).run P w=_
  rw[e1];exact hc
 unfold Conc.G
 rw[h1,Oper.semAt_eq _ _ _ hd]
 simp only[stepG.apply,Sem.runT_eq,hrun,if_true,GStep.after]
 exact⟨_,rfl⟩
theorem Ups.callL(hK:Ups P L N K){ρ:Nms}{n:Nat}{t:T Value}{h h':H}{o:Oper}{v:Value}{ops:Array Oper}{i:Nat}{rest:List Nat}{b:Frame}{a:Act}{k:List Item}{cs:List Frame}{w:World}{f:FuncId}{xs:Array Operand}{ats:Array TypeId}{args:List Value}(hop:o.op=.call {callee:=.value (.func f),args:=xs,argTypes:=ats})(hargs:opts (evalO t) xs.toList=some args)(hF:FuncDoes P f args h v h')(hfL:f∈L)(hfN:f∉N)(hcl:cleansB L args=true)(hbo:bOper P L o=true)(ho:ops[i]?=some o)(hw:Region.wanted o (yielded ops a.tmps)=true)(ht:TR ρ n t a.tmps)(hr:HR ρ h w)(hu:Unb ρ h.next h'.next)(hcs:Stk cs)(hk:∀ρ' v' w',Stp ρ h w ρ' h' w'→HR ρ' h' w'→VR ρ' v v'→K (b.atR (a.put o.dst v') (.inRegion ops rest::k)) cs w'):K (b.atR a (.inRegion ops (i::rest)::k)) cs w:=by
 obtain⟨hn,fn,c,hf,hb,hname,hdo⟩:=hF
 have hE:=env_of ht
 have hva:=hE.opts hargs
 refine hK.own (fit_call (o:=o) rfl rfl ho hop hfN hbo) fun tp=>?_
 obtain⟨es,hst⟩:=go_enter (b:=b) (k:=k) (cs:=cs) (rest:=rest) (w:=wt w tp) ho hw hop hf hb hname
 refine⟨_,_,wt w tp,es,hst,trivial,hcs.cons _,fun hc=>Ren.clean_same hc (wt_heap w tp),.of rfl,?_⟩
 have e1:xs.map a.eval=⟨xs.toList.map a.eval⟩:=by apply Array.ext';simp
 rw[e1]
 have hF:FuncDoes P f args h v h':=⟨hn,fn,c,hf,hb,hname,hdo⟩
 refine hK.call (Post:=fun x w'=>∃ρ',Stp ρ h w ρ' h' w'∧HR ρ' h' w'∧VR ρ' v x) hfL (cleanV_of fun x hx=>VRs.clean hva hcl x (by simpa using hx)) hcs.ne (fun x v1 t1 ⟨ρ',s1,s2,s3⟩=>⟨ρ',⟨s1.le,s1.next,s1.born,s1.size,s1.log⟩,s2.heap rfl,s3⟩) (fun t1=>?_) (fun x w' ⟨ρ',s1,_,_⟩=>show Stays w w' from .of_stp s1 hr hu) fun x w' ⟨ρ',s1,s2,s3⟩=>?_
 .refine(hF.calls (ρ:=ρ) (w:=wt (wt w tp) t1) hva (hr.heap rfl) hu).mono ?_
  rintro e w' ⟨v',ρ',rfl,s1,s2,s3⟩
  exact⟨v',rfl,ρ',s1.heap rfl,s2,s3⟩
 .have hfin:=Frame.finish_atR b a ops i rest k x
  rw[ho] at hfin
  simp only[Option.bind_some] at hfin
  rw[hfin]
  exact hk ρ' x w' s1 s2 s3
def invC(N:List FuncId)(invN:FuncId→List Value→H→Option (Value×H))(invL:Iv):Iv
 |.func f,args,h=>match N.contains f with
  |true=>invN f args h
  |false=>invL (.func f) args h
 |_,_,_=>none
def ckC(P:Program)(L N:List FuncId)(t:T Value)(o:Oper):Bool:=
 match o.op with
 |.call c=>match c.callee with
  |.value (.func f)=>match N.contains f with
   |true=>c.args.toList.all (bOpnd P (L++N))
   |false=>bOper P L o&&L.contains f&&(match opts (evalO t) c.args.toList with|some args=>cleansB L args|none=>false)
  |.builtin _=>cOp P L t o
  |_=>false
 |_=>cOp P L t o
def FuncK(P:Program)(L N:List FuncId)(K:Frame→List Frame→World→Prop)(f:FuncId)(args:List Value)(h:H)(v:Value)(h':H):Prop:=
 h.next≤h'.next∧∃fn c,P.funcs[f]?=some fn∧fn.body=some c∧(fn.name == "runtime.NumGoroutine")=false∧bCodeL P L c=true ∧
  ∀ρ args' w c cs,Stk cs→notPanicking c.mode→VRs ρ args args'→HR ρ h w→Unb ρ h.next h'.next→(∀ρ' v' w',Stp ρ h w ρ' h' w'→HR ρ' h' w'→VR ρ' v v'→K (c.finish v') cs w')→K (Frame.enter P f ⟨args'⟩ .normal) (c::cs) w
structure IvK(P:Program)(L N:List FuncId)(K:Frame→List Frame→World→Prop)(invN:FuncId→List Value→H→Option (Value×H))(invL:Iv):Prop where
 ups:Ups P L N K
 lone:∀f args h v h',invL (.func f) args h=some (v,h')→FuncDoes P f args h v h'
 many:∀f args h v h',f∈N→invN f args h=some (v,h')→FuncK P L N K f args h v h'
variable{invN:FuncId→List Value→H→Option (Value×H)}{invL:Iv}
theorem IvK.next(hI:IvK P L N K invN invL):NextOK (invC N invN invL):=fun g args h v h' e=>by
 cases g with
 |func f=>
  simp only[invC] at e
  split at e
  .rename_i hf;exact(hI.many f args h v h' (by simpa using hf) e).1
  .exact(hI.lone f args h v h' e).1
 |_=>simp[invC] at e
theorem opnd_mono{x:Operand}(h:bOpnd P (L++N) x=true):OpndOK P (@Ren.Nm (spOf P L N) (·∈L)) x:=by
 have h1:=bOpnd_ok h
 cases x with
 |func f=>
  have h2:f∈L++N:=h1
  rcases List.mem_append.1 h2 with h3|h3
  .exact .inl h3
  .exact .inr h3
 |_=>exact h1
theorem Ups.enter(hK:Ups P L N K){f:FuncId}{fn:Func}{c:Code}{xs:Array Operand}{ats:Array TypeId}{ops:Array Oper}{i:Nat}{rest:List Nat}{o:Oper}{b:Frame}{a:Act}{k:List Item}{cs:List Frame}{w:World}(ho:ops[i]?=some o)(hw:Region.wanted o (yielded ops a.tmps)=true)
  (hop:o.op=.call {callee:=.value (.func f),args:=xs,argTypes:=ats}) (hf:P.funcs[f]?=some fn) (hb:fn.body=some c) (hname:(fn.name == "runtime.NumGoroutine")=false) (hcl:bCodeL P L c=true) (hxs:∀x∈xs,bOpnd P (L++N) x=true)
  (hbk:b.kind=.normal) (hbr:b.roundOf=none) (h:K (Frame.enter P f (xs.map a.eval) .normal) (b.atR a (.inRegion ops (i::rest)::k)::cs) w):K (b.atR a (.inRegion ops (i::rest)::k)) cs w:=by
 have hgood:@FrameGood _ (spOf P L N) P (·∈L) (Frame.enter P f #[] .normal):=by
  refine @FrameGood.mk _ (spOf P L N) P (·∈L) (Frame.enter P f #[] .normal) (fun it hit=>?_) (fun d hd=>(by simp[Frame.enter] at hd)) trivial (.inl rfl)
  have:it=.code c:=by
   simp only[Frame.enter,hf] at hit
   simpa[hb] using hit
  subst this
  exact @bCodeL_ok _ P L N c hcl
 have hxs':∀x∈xs,OpndOK P (@Ren.Nm (spOf P L N) (·∈L)) x:=fun x hx=>opnd_mono (hxs x hx)
 refine hK _ _ _ (@LTree.enter _ (spOf P L N) P (·∈L) _ (b.atR a (.inRegion ops (i::rest)::k)) cs f xs w hgood hxs' (fun fr' m cs' w1 hx=>?_) ?_)
 .exact @enter_st _ _ (spOf P L N) P (·∈L) (b.atR a (.inRegion ops (i::rest)::k)) ops i rest k o f fn c xs ats rfl hbr (by show b.kind≠.early;rw[hbk];intro h;cases h) rfl ho hw hop hf hname hb hxs' fr' m cs' w1 hx
 .have e:xs.map (b.atR a (.inRegion ops (i::rest)::k)).eval=xs.map a.eval:=by rw[Frame.eval_atR]
  rw[e]
  exact @LTree.done _ (spOf P L N) _ _ _ _ _ ⟨_,_,rfl,h,.of rfl⟩
theorem IvK.one(hI:IvK P L N K invN invL){ρ:Nms}{n:Nat}{t:T Value}{h h':H}{o:Oper}{v:Value}{ops:Array Oper}{i:Nat}{rest:List Nat}{b:Frame}{a:Act}{k:List Item}{cs:List Frame}{w:World}(e:oneO P (invC N invN invL) t h o.op=some (v,h'))(hc:ckC P L N t o=true)(hLN:∀f∈L,f∉N)(ho:ops[i]?=some o)(hw:Region.wanted o (yielded ops a.tmps)=true)(ht:TR ρ n t a.tmps)(hr:HR ρ h w)(hu:Unb ρ h.next h'.next)(hcs:Stk cs)(hbk:b.kind=.normal)(hbr:b.roundOf=none)(hk:∀ρ' v' w',Stp ρ h w ρ' h' w'→HR ρ' h' w'→VR ρ' v v'→K (b.atR (a.put o.dst v') (.inRegion ops rest::k)) cs w'):K (b.atR a (.inRegion ops (i::rest)::k)) cs w:=by
 by_cases hcall:∃c,o.op=.call c∧∃f,c.callee=.value f
 .obtain⟨⟨cal,xs,ats⟩,hop,f0,hcal⟩:=hcall
  simp only at hcal
  subst hcal
  unfold ckC at hc
  rw[hop] at hc e
  simp only at hc
  split at hc
  .rename_i f hff
   cases hff
   have e':callO (invC N invN invL) t h (.func f) xs.toList=some (v,h'):=by simpa[oneO,pureB] using e
   unfold callO at e'
   simp only[evalO] at e'
   split at e'
   .rename_i args hargs
    have hcl:callee (.func (.func f) #[] #[]) args=some (.func f,args):=by simp[callee]
    rw[hcl] at e'
    simp only[invC] at e'
    split at hc
    .rename_i hN
     rw[hN] at e'
     simp only at e'
     obtain⟨n1,fn,c,q1,q2,q3,q4,q5⟩:=hI.many f args h v h' (by simpa using hN) e'
     have hva:=(env_of ht).opts hargs
     refine hI.ups.enter ho hw hop q1 q2 q3 q4 (fun x hx=>List.all_eq_true.1 hc x (by simpa using hx)) hbk hbr ?_
     have e1:xs.map a.eval=⟨xs.toList.map a.eval⟩:=by apply Array.ext';simp
     rw[e1]
     refine q5 ρ _ w _ cs hcs trivial hva hr hu fun ρ' v' w' s1 s2 s3=>?_
     have hfin:=Frame.finish_atR b a ops i rest k v'
     rw[ho] at hfin
     simp only[Option.bind_some] at hfin
     rw[hfin]
     exact hk ρ' v' w' s1 s2 s3
    .rename_i hN
     rw[hN] at e'
     simp only[Bool.and_eq_true] at hc
     rw[hargs] at hc
     have hfL:f∈L:=by simpa using hc.1.2
     exact hI.ups.callL hop hargs (hI.lone f args h v h' e') hfL (hLN f hfL) hc.2 hc.1.1 ho hw ht hr hu hcs hk
   .cases e'
  .rename_i hx;cases hx
  .cases hc
 .have hc':cOp P L t o=true:=by
   unfold ckC at hc
   split at hc
   .rename_i c hop
    split at hc
    .rename_i hv;exact absurd ⟨c,hop,_,hv⟩ hcall
    .exact hc
    .cases hc
   .exact hc
  refine hI.ups.op (t:=t) ?_ hc' ho hw ht hr hu hcs hk
  unfold oneO at e
  split at e
  .rename_i hp
   rw[hp]
   split at e
   .rename_i u hu';cases e;simp[hu']
   .cases e
  .rename_i hp
   rw[hp]
   split at e
   .rename_i c hop
    split at e
    .rename_i hv;exact absurd ⟨c,hop,_,hv⟩ hcall
    .simpa using e
   .simpa using e
end
section
variable[M:Mps]{P:Program}{L N:List FuncId}{K:Frame→List Frame→World→Prop}{invN:FuncId→List Value→H→Option (Value×H)}{invL:Iv}
def skC(P:Program)(L N:List FuncId)(o:Oper):Bool:=bOper P L o&&(match o.op with
 |.call c=>match c.callee with
  |.value (.func f)=>!N.contains f
  |_=>false
 |_=>true)
def ckN(P:Program)(L N:List FuncId):Ck:=⟨ckC P L N,skC P L N⟩
theorem fit_skip{b:Frame}{a:Act}{cs:List Frame}{k:List Item}{ops:Array Oper}{i:Nat}{rest:List Nat}{o:Oper}(ho:ops[i]?=some o)(h:skC P L N o=true):@Fit (spOf P L N) P (G (b.atR a (.inRegion ops (i::rest)::k)) cs):=by
 unfold skC at h
 simp only[Bool.and_eq_true] at h
 obtain⟨hb,h⟩:=h
 split at h
 .rename_i c hop
  split at h
  .rename_i f hc
   obtain⟨cal,xs,ats⟩:=c
   simp only at hc
   subst hc
   exact fit_call (o:=o) rfl rfl ho hop (by simpa using h) hb
  .cases h
 .rename_i hnc
  have hcall:isCall o.op=false:=by
   cases hop:o.op<;>first|rfl|exact absurd hop (hnc _)
  exact fit_at_op ho hcall hb
theorem Ups.skip(hK:Ups P L N K){ops:Array Oper}{i:Nat}{rest:List Nat}{o:Oper}{b:Frame}{a:Act}{k:List Item}{cs:List Frame}{w:World}(ho:ops[i]?=some o)(hs:skC P L N o=true)(hw:Region.wanted o (yielded ops a.tmps)=false)(hcs:Stk cs)(h:∀t,K (b.atR (a.put o.dst undef) (.inRegion ops rest::k)) cs (wt w t)):K (b.atR a (.inRegion ops (i::rest)::k)) cs w:=by
 have hfin:=Frame.finish_atR b a ops i rest k undef
 rw[ho] at hfin
 simp only[Option.bind_some] at hfin
 have h':((ops[i]?).map (Region.wanted · (yielded ops a.tmps))).getD false=false:=by rw[ho];simpa using hw
 refine hK.own (fit_skip ho hs) fun t=>⟨b.atR (a.put o.dst undef) (.inRegion ops rest::k),cs,wt w t,#[],?_,trivial,hcs,fun hc=>Ren.clean_same hc rfl,.of rfl,h t⟩
 rw[←hfin]
 unfold Conc.G
 simp only[Frame.atR] at h'⊢
 simp[stepG,stepG.exec,h']
theorem Ups.pure_(hK:Ups P L N K){ρ:Ev.Nms}{n:Nat}{t:T Value}{o:Oper}{v:Value}{ops:Array Oper}{i:Nat}{rest:List Nat}{b:Frame}{a:Act}{k:List Item}{cs:List Frame}{w:World}(e:pureV P (evalO t) o.op=some v)(hc:ckC P L N t o=true)(hpb:pureB o.op=true)(ho:ops[i]?=some o)(hw:Region.wanted o (yielded ops a.tmps)=true)(ht:TR ρ n t a.tmps)(hcs:Stk cs)(hk:∀v' tp,VR ρ v v'→K (b.atR (a.put o.dst v') (.inRegion ops rest::k)) cs (wt w tp)):K (b.atR a (.inRegion ops (i::rest)::k)) cs w:=by
 have hc':cOp P L t o=true:=by
  unfold ckC at hc
  split at hc
  .rename_i c hop
   split at hc
   .rename_i f hcal
    rw[hop] at hpb
    simp[pureB,hcal] at hpb
   .exact hc
   .cases hc
  .exact hc
 unfold cOp at hc'
 simp only[Bool.and_eq_true,Bool.not_eq_true'] at hc'
 refine hK.own (fit_at_op ho hc'.1.2 hc'.1.1) fun tp=>?_
 obtain⟨v',q1,q2⟩:=pure_ok (o:=o) (env_of ht) e (wt w tp)
 obtain⟨es,hst⟩:=go_gives (b:=b) (k:=k) (cs:=cs) (rest:=rest) ho hw (pure_not_defer e) q1 (.inl rfl)
 exact⟨_,_,_,es,hst,trivial,hcs,fun hcl=>Ren.clean_same hcl rfl,.of rfl,hk v' tp q2⟩
theorem Ups.item(hK:Ups P L N K){b:Frame}{a:Act}{x:Item}{k k':List Item}{cs:List Frame}{w:World}(hx:noOp x=true)(hcs:Stk cs)(h:∀w:World,∃es,stepG P true (G (b.atR a (x::k)) cs) w=.go (G (b.atR a k') cs) w es)(hk:∀t,K (b.atR a k') cs (wt w t)):K (b.atR a (x::k)) cs w:=hK.text hcs (fit_at_item hx) h hk
theorem go_region_end{b:Frame}{a:Act}{ops:Array Oper}{k:List Item}{cs:List Frame}(w:World):∃es,stepG P true (G (b.atR a (.inRegion ops []::k)) cs) w=.go (G (b.atR a k) cs) w es:=⟨#[],by unfold Conc.G;simp[stepG,stepG.exec,Frame.atR]⟩
variable(hI:IvK P L N K invN invL)(hLN:∀f∈L,f∉N)
include hI hLN
theorem IvK.ops{n:Nat}{ops:Array Oper}{b:Frame}{k:List Item}{cs:List Frame}(hbk:b.kind=.normal)(hbr:b.roundOf=none)(hcs:Stk cs):∀{l:List Oper} {i:Nat} {t t':T Value} {h h':H},l=ops.toList.drop i→opsO P (invC N invN invL) (ckN P L N) n ops.toList l t h=some (t',h')→∀{ρ:Ev.Nms} {a:Act} {w:World},TR ρ n t a.tmps→HR ρ h w→Unb ρ h.next h'.next→(∀ρ' a' w',a'.defers=a.defers→Stp ρ h w ρ' h' w'→HR ρ' h' w'→TR ρ' n t' a'.tmps→K (b.atR a' k) cs w')→K (b.atR a (.inRegion ops (List.range' i l.length)::k)) cs w
 |[],i,t,t',h,h',hl,e,ρ,a,w,ht,hr,hu,hk=>by
  cases e
  exact hI.ups.item rfl hcs go_region_end fun tp=>hk ρ a (wt w tp) rfl (.refl ρ h _ _ rfl) (hr.heap rfl) ht
 |o::l,i,t,t',h,h',hl,e,ρ,a,w,ht,hr,hu,hk=>by
  have ho:ops[i]?=some o:=by
   have:(ops.toList.drop i)[0]?=some o:=by rw[←hl];rfl
   simpa using this
  have hl':l=ops.toList.drop (i+1):=by
   rw[←List.drop_drop,←hl];rfl
  have hrange:List.range' i (o::l).length=i::List.range' (i+1) l.length:=by simp[List.range'_succ]
  rw[hrange]
  simp only[opsO] at e
  split at e
  .rename_i hw
   have hwant:=wanted_ok ht hw
   split at e
   case h_2=>cases e
   rename_i hck
   split at e
   .rename_i v h1 e1
    split at e
    .rename_i t1 e2
     have n1:=one_next hI.next e1
     have n2:=ops_next hI.next e
     refine hI.one e1 hck hLN ho hwant ht hr (hu.sub (Nat.le_refl _) n2) hcs hbk hbr fun ρ1 v' w1 s2 s3 s4=>?_
     have ht1:TR ρ1 n t1 (a.put o.dst v').tmps:=(ht.mono s2.le).put e2 s4
     exact IvK.ops hbk hbr hcs hl' e ht1 s3 ((hu.sub n1 (Nat.le_refl _)).step s2 (Nat.le_refl _)) fun ρ2 a2 w2 d1 d2 d3 d4=>hk ρ2 a2 w2 (by rw[d1,put_defers]) (s2.trans d2) d3 d4
    .cases e
   .cases e
  .rename_i hw
   have hwant:=wanted_ok ht hw
   split at e
   case h_2=>cases e
   rename_i hsk
   split at e
   .rename_i t1 e2
    have ht1:TR ρ n t1 (a.put o.dst undef).tmps:=ht.put e2 undef_rel
    refine hI.ups.skip ho hsk hwant hcs fun tp=>?_
    exact IvK.ops hbk hbr hcs hl' e ht1 (hr.heap rfl) hu fun ρ2 a2 w2 d1 d2 d3 d4=>hk ρ2 a2 w2 (by rw[d1,put_defers]) (d2.heap rfl) d3 d4
   .cases e
  .cases e
variable{n:Nat}{ops:Array Oper}{h:H}{TT:Nat→T Value}{NX:Nat→Nat}{RS:Nat→List Rec}{ρ0 ρ:Ev.Nms}{w0 w:World}{X:Nat→Prop}{E:List Rec}{a:Act}
omit hI hLN in
theorem Mid.heap_same{w':World}(hM:Mid P n ops h TT NX RS ρ0 w0 X E ρ a w)(e:w'.heap=w.heap):Mid P n ops h TT NX RS ρ0 w0 X E ρ a w':=by
 obtain⟨m1,m2,m3,m4,m5,m6,m7,m8⟩:=hM
 obtain⟨f1,f2,f3,l,f4,f5,f6,f7⟩:=m7
 exact⟨m1,m2,m3,m4,m5,m6.heap e,⟨f1,f2,by rw[e];exact f3,l,f4,by rw[e];exact f5,f6,f7⟩,m8⟩
theorem IvK.mid(hF:Fine P (invC N invN invL) (ckN P L N) n ops h TT NX RS)(hM:Mid P n ops h TT NX RS ρ0 w0 X E ρ a w){i:Nat}{o:Oper}(ho:ops[i]?=some o)(hX:¬X i)(hd:∀e∈o.after,Region.binds .any e=true→X e.on){b:Frame}{k:List Item}{cs:List Frame}(hbk:b.kind=.normal)(hbr:b.roundOf=none)(hcs:Stk cs)(rest:List Nat)(hk:∀ρ' E' v' w',Mid P n ops h TT NX RS ρ0 w0 (fun j=>X j∨j=i) E' ρ' (a.put o.dst v') w'→K (b.atR (a.put o.dst v') (.inRegion ops rest::k)) cs w'):K (b.atR a (.inRegion ops (i::rest)::k)) cs w:=by
 have hR:=hM.reads hF ho hX hd
 obtain⟨v,hset,hs⟩:=hF.tr.step i o ho
 rcases hs with⟨hw,hsk,rfl,_,he⟩|⟨hw,hck,hpb,hp,_,he⟩|⟨hw,hck,h1,e1,e2,he⟩
 .exact hI.ups.skip ho hsk (wanted_ok hR hw) hcs fun tp=>hk ρ E undef (wt w tp) ((hM.quiet hF ho hX hd hset he undef_rel).heap_same rfl)
 .have hwant:=wanted_ok hR hw
  exact hI.ups.pure_ hp hck hpb ho hwant hR hcs fun v' tp hv=>hk ρ E v' (wt w tp) ((hM.quiet hF ho hX hd hset he hv).heap_same rfl)
 .have hwant:=wanted_ok hR hw
  obtain⟨hHR,hun,E',hnew⟩:=hM.loud hF ho hX hd hset he
  exact hI.one e1 hck hLN ho hwant hR hHR hun hcs hbk hbr fun ρ' v' w' s1 s2 s3=>hk ρ' E' v' w' (hnew s1 s2 s3)
end
section
variable[M:Mps]{P:Program}{L N:List FuncId}{K:Frame→List Frame→World→Prop}{invN:FuncId→List Value→H→Option (Value×H)}{invL:Iv}{n:Nat}{ops:Array Oper}{h:H}{TT:Nat→T Value}{NX:Nat→Nat}{RS:Nat→List Rec}
theorem ready_all(hlow:∀i o,ops[i]?=some o→∀e∈o.after,Region.binds .any e=true→e.on<i){listed:Array Bool}(hs:listed.size=ops.size)(hnil:Region.ready .any ops listed=[]):∀m j,j<m→j<ops.size→listed.getD j true=true:=by
 intro m
 induction m with
 |zero=>intro j h1;omega
 |succ m ihm=>
  intro j h1 h2
  by_cases hjm:j<m
  .exact ihm j hjm h2
  .obtain rfl:j=m:=by omega
   cases e:listed.getD j true
   .exfalso
    have:j∈Region.ready .any ops listed:=mem_ready.2 ⟨e,_,Array.getElem?_eq_getElem h2,fun ed hed hb=>by
     have hl:=hlow j _ (Array.getElem?_eq_getElem h2) ed hed hb
     rw[←getD_both (by omega)]
     exact ihm _ hl (by omega)⟩
    rw[hnil] at this;cases this
   .rfl
theorem IvK.all(hI:IvK P L N K invN invL)(hLN:∀f∈L,f∉N)(hF:Fine P (invC N invN invL) (ckN P L N) n ops h TT NX RS){ρ0:Ev.Nms}{w0:World}{b:Frame}{k:List Item}{cs:List Frame}{ds:List Deferred}(hbk:b.kind=.normal)(hbr:b.roundOf=none)(hcs:Stk cs)(hk:∀X E ρ a w,a.defers=ds→(∀j,j<ops.size→X j)→Mid P n ops h TT NX RS ρ0 w0 X E ρ a w→K (b.atR a (.inRegion ops []::k)) cs w):∀(fuel t:Nat) (listed:Array Bool) {E:List Rec} {ρ:Ev.Nms} {a:Act} {w:World},listed.size=ops.size→(left_ ops listed).length≤fuel→a.defers=ds→Mid P n ops h TT NX RS ρ0 w0 (fun j=>listed.getD j false=true) E ρ a w→K (b.atR a (.inRegion ops (Region.linearise.go .any ops fuel t listed [])::k)) cs w:=by
 intro fuel
 induction fuel with
 |zero=>
  intro t listed E ρ a w hs hl hds hM
  have hnil:left_ ops listed=[]:=List.eq_nil_of_length_eq_zero (by omega)
  have:Region.linearise.go .any ops 0 t listed []=[]:=by simp[Region.linearise.go]
  rw[this]
  refine hk _ E ρ a w hds (fun j hj=>?_) hM
  cases e:listed.getD j true
  .have:j∈left_ ops listed:=left_mem.2 ⟨hj,e⟩
   rw[hnil] at this;cases this
  .rw[←getD_both (by omega)];exact e
 |succ fuel ih=>
  intro t listed E ρ a w hs hl hds hM
  simp only[Region.linearise.go]
  change K (b.atR a (.inRegion ops (match(Region.ready .any ops listed)[t % (Region.ready .any ops listed).length]? with
   |some i=>Region.linearise.go .any ops fuel (t / (Region.ready .any ops listed).length) (listed.setIfInBounds i true) [i]
   |none=>[].reverse)::k)) cs w
  cases hi:(Region.ready .any ops listed)[t % (Region.ready .any ops listed).length]? with
  |none=>
   have hnil:Region.ready .any ops listed=[]:=by
    cases hr:Region.ready .any ops listed with
    |nil=>rfl
    |cons x xs=>
     rw[hr] at hi
     have hlt:t % (x::xs).length<(x::xs).length:=Nat.mod_lt _ (by simp)
     simp at hi
     simp at hlt
     omega
   simp only[List.reverse_nil]
   refine hk _ E ρ a w hds (fun j hj=>?_) hM
   rw[←getD_both (by omega)];exact ready_all (fun i o ho=>drawOK_low hF.draw ho) hs hnil (j+1) j (by omega) hj
  |some i=>
   simp only[]
   rw[linearise_go_acc,List.reverse_singleton,List.singleton_append]
   obtain⟨q1,o,q2,q3⟩:=mem_ready.1 (List.mem_of_getElem? hi)
   have hio:=(Array.getElem?_eq_some_iff.1 q2).1
   refine hI.mid hLN hF hM q2 (by rw[←getD_both (by omega),q1];simp) q3 hbk hbr hcs _ fun ρ1 E1 v1 w1 s2=>?_
   have hX:(fun j=>listed.getD j false=true∨j=i)=fun j=>(listed.setIfInBounds i true).getD j false=true:=by
    funext j
    by_cases e:j=i
    .subst e;simp[Array.getD,hs,hio]
    .rw[getD_set_ne false (Ne.symm e)];simp[e]
   rw[hX] at s2
   have hlt:=left_less hs (left_mem.2 ⟨hio,q1⟩)
   exact ih (t / (Region.ready .any ops listed).length) (listed.setIfInBounds i true) (by simpa using hs) (by omega) (by rw[put_defers];exact hds) s2
theorem Mid.end_{inv:Iv}{ck:Ck}(hF:Fine P inv ck n ops h TT NX RS){ρ ρ':Ev.Nms}{w w':World}{X:Nat→Prop}{E:List Rec}{a':Act}(s3:∀j,j<ops.size→X j)(s4:Mid P n ops h TT NX RS ρ w X E ρ' a' w')(hnx:h.next≤NX ops.size):Stp ρ h w ρ' ⟨layAll h.t (RS ops.size),NX ops.size,logAll (RS ops.size)++h.log⟩ w'∧HR ρ' ⟨layAll h.t (RS ops.size),NX ops.size,logAll (RS ops.size)++h.log⟩ w'∧TR ρ' n (TT ops.size) a'.tmps:=by
 have hmem:∀r,r∈E↔r∈RS ops.size:=fun r=>by
  rw[s4.mem]
  exact⟨fun h=>h.1,fun h=>⟨h,s3 _ (hF.rec_ h).1⟩⟩
 have hget:∀c,(⟨layAll h.t (RS ops.size),NX ops.size,logAll (RS ops.size)++h.log⟩:H).get c=(HE h (NX ops.size) E).get c:=fun c=>by
  rw[hF.heap_get fun r hr=>(hmem r).1 hr]
  show(layAll h.t (RS ops.size)).get c=_
  rw[layAll_get _ _ _ fun r hr=>hF.top_ hr]
  rw[find_same (pr:=prd ops) (p:=touches c) (l:=RS ops.size) (m:=E) ((hF.tr.all (Nat.le_refl _)).2.imp fun{r s} hrs=>by
   cases e:prd ops r.i s.i
   .rfl
   .have:=hF.lt e;omega) s4.pw (fun r _=>(hmem r).symm) (fun r s hr hs h1 h2=>hF.both hr hs h1 h2)]
  rfl
 have hlg:∀c,c∈logAll (RS ops.size)↔c∈logAll E:=fun c=>by
  rw[logAll_mem,logAll_mem]
  exact⟨fun⟨r,h1,h2⟩=>⟨r,(hmem r).2 h1,h2⟩,fun⟨r,h1,h2⟩=>⟨r,(hmem r).1 h1,h2⟩⟩
 refine⟨?_,⟨s4.heap.tame,fun c oc hc=>s4.heap.ob c oc (by rw[←hget];exact hc),fun c d x k l hc hd=>s4.heap.inj c d x k l (by rw[←hget];exact hc) (by rw[←hget];exact hd)⟩,s4.size,fun d v hv=>?_⟩
 .obtain⟨l,e1,f1,o1,t1,g1,k1⟩:=s4.far.log
  have hl:l=logAll E:=List.append_cancel_right (show l++h.log=logAll E++h.log from e1.symm)
  subst hl
  refine⟨s4.far.le,hnx,fun b hb hx=>s4.far.born b hb fun hn=>?_,s4.far.size,logAll (RS ops.size),rfl,fun x o hx hn=>f1 x o hx fun c m hc=>hn c m ((hlg c).2 hc),fun c x m hc=>?_,fun c hc=>t1 c ((hlg c).1 hc),fun c hc=>?_,fun c hc=>k1 c fun h=>hc ((hlg c).2 h)⟩
  .simp only at hx;omega
  .rcases o1 c x m hc with h|⟨h1,h|⟨d,m',h2,h3⟩⟩
   .exact .inl h
   .exact .inr ⟨h1,.inl h⟩
   .exact .inr ⟨h1,.inr ⟨d,m',(hlg d).2 h2,h3⟩⟩
  .rw[hget];exact g1 c fun h=>hc ((hlg c).2 h)
 .obtain⟨m,m1,m2,m3⟩:=s4.tmps d
  refine m3 v ?_
  rw[←hv]
  exact hF.tt_same (Nat.le_refl _) m1 fun j o hj hd=>by
   have hjs:=(Array.getElem?_eq_some_iff.1 hj).1
   rw[←m2 j o hj hd]
   exact⟨fun _=>s3 j hjs,fun _=>hjs⟩
theorem drawn_fine{inv:Iv}{ck:Ck}(hN:NextOK inv){t t':T Value}{h':H}(e:drawnO P inv ck n ops.toList t h=some (t',h')) :
  (match P.follows .mixedOrders with|true=>true|false=>!departsB ops.toList)=true∧∃TT NX RS,Fine P inv ck n ops h TT NX RS∧TT 0=t∧TT ops.size=t'∧h'=⟨layAll h.t (RS ops.size),NX ops.size,logAll (RS ops.size)++h.log⟩∧h.next≤NX ops.size:=by
 unfold drawnO at e
 split at e
 .rename_i hdraw hdep
  split at e
  .rename_i t1 nx rs hreg
   split at e
   .rename_i hap hlog
    cases e
    obtain⟨TT,NX,RS,a1,a2,a3,a4,a5,a6,a7⟩:=reg_trace hreg
    have hsz:0+ops.toList.length=ops.size:=by simp
    rw[hsz] at a4 a5 a6
    subst a4 a5 a6
    have hF:Fine P inv ck n ops h TT NX RS:={
     hI:=hN
     tr:=⟨fun j o ho=>by simpa using a7 j o (by simpa using ho),a3⟩
     draw:=hdraw
     apart:=fun r hr s hs=>allApart_ok hap r hr s hs
     logs:=fun r hr=>List.all_eq_true.1 hlog r hr
     nx0:=a2}
    have hnx:=hF.tr.next_le hN (j:=0) (k:=ops.size) (by omega) (by omega)
    rw[a2] at hnx
    exact⟨hdep,TT,NX,RS,hF,a1,rfl,rfl,hnx⟩
   .cases e
  .cases e
 .cases e
theorem Fine.mid0{inv:Iv}{ck:Ck}(hF:Fine P inv ck n ops h TT NX RS){ρ:Ev.Nms}{a:Act}{w:World}(ht:TR ρ n (TT 0) a.tmps)(hr:HR ρ h w)(hu:Unb ρ h.next (NX ops.size)):Mid P n ops h TT NX RS ρ w (fun j=>(Array.replicate ops.size false).getD j false=true) [] ρ a w:=by
 have hX0:∀j,(Array.replicate ops.size false).getD j false=false:=fun j=>by
  simp only[Array.getD];split<;>simp
 exact{
  closed:=fun j hj=>by rw[hX0] at hj;cases hj
  mem:=fun r=>by simp[hX0]
  pw:=.nil
  size:=ht.size
  tmps:=fun d=>⟨0,by omega,fun j o _ _=>by simp[hX0],fun v hv=>ht.get d v hv⟩
  heap:=⟨hr.tame,hr.ob,hr.inj⟩
  far:=⟨.refl ρ,fun _ h _=>h,Nat.le_refl _,[],rfl,fun x o hx _=>hx,fun _ _ _ h=>.inl h,fun _ h=>by simp at h,fun _ _=>rfl,fun _ _ _=>rfl⟩
  unb:=fun r hr _=>by
   obtain⟨q1,⟨_,q2,_⟩,q3⟩:=hF.rec_ hr
   have h1:=hF.tr.next_le hF.hI (j:=0) (k:=r.i) (by omega) (by omega)
   have h2:=hF.tr.next_le hF.hI (j:=r.i+1) (k:=ops.size) (by omega) (by omega)
   rw[hF.nx0] at h1
   exact hu.sub (by rw[q2];exact h1) (by rw[q3];exact h2)}
theorem IvK.drawn(hI:IvK P L N K invN invL)(hLN:∀f∈L,f∉N){t t':T Value}{h':H}(e:drawnO P (invC N invN invL) (ckN P L N) n ops.toList t h=some (t',h')){ρ:Ev.Nms}{b:Frame}{a:Act}{k:List Item}{cs:List Frame}{w:World}(hbk:b.kind=.normal)(hbr:b.roundOf=none)(hcs:Stk cs)(x:Nat)(ht:TR ρ n t a.tmps)(hr:HR ρ h w)(hu:Unb ρ h.next h'.next)(hk:∀ρ' a' w',a'.defers=a.defers→Stp ρ h w ρ' h' w'→HR ρ' h' w'→TR ρ' n t' a'.tmps→K (b.atR a' k) cs w'):K (b.atR a (.inRegion ops (Region.schedule (P.follows .mixedOrders) ops x)::k)) cs w:=by
 obtain⟨hdep,TT,NX,RS,hF,a1,a2,rfl,hnx⟩:=drawn_fine hI.next e
 rw[schedule_any hdep]
 unfold Region.linearise
 refine hI.all hLN hF (ds:=a.defers) (ρ0:=ρ) (w0:=w) hbk hbr hcs (fun X E ρ' a' w' d1 d2 d3=>?_) ops.size x (Array.replicate ops.size false) (by simp) (by
  refine Nat.le_trans (List.length_filter_le _ _) (by simp)) rfl (hF.mid0 (by rw[a1];exact ht) hr hu)
 obtain⟨q1,q2,q3⟩:=d3.end_ hF d2 hnx
 refine hI.ups.item rfl hcs go_region_end fun tp=>hk ρ' a' (wt w' tp) d1 ?_ (q2.heap rfl) (by rw[←a2];exact q3)
 exact⟨q1.le,q1.next,q1.born,q1.size,q1.log⟩
end
section
variable[M:Mps]{P:Program}{L N:List FuncId}{K:Frame→List Frame→World→Prop}{invN:FuncId→List Value→H→Option (Value×H)}{invL:Iv}
section
variable(P:Program)(L N:List FuncId)(invN:FuncId→List Value→H→Option (Value×H))(invL:Iv)
def regionC(n:Nat)(ops:List Oper)(draw:Bool)(s:St):Option (Ex×St):=
 match draw with
 |false=>match opsO P (invC N invN invL) (ckN P L N) n ops ops s.t s.h with
  |some (t,h)=>some (.normal,⟨t,h,s.marks⟩)
  |none=>none
 |true=>match drawnO P (invC N invN invL) (ckN P L N) n ops s.t s.h with
  |some (t,h)=>some (.normal,⟨t,h,s.marks⟩)
  |none=>none
def codeC(n:Nat):Code→St→Option (Ex×St)
 |.skip,s|.label _,s=>some (.normal,s)
 |.region _ ops draw,s=>regionC P L N invN invL n ops.toList draw s
 |.seq a b,s=>thenO (codeC n a s) (codeC n b)
 |.cond c a b,s=>match evalO s.t c with
  |some (.bool true)=>codeC n a s
  |some (.bool false)=>codeC n b s
  |_=>none
 |.block id b,s=>blockO id (codeC n b s)
 |.exit id,s=>some (.exit id,s)
 |.ret,s=>some (.ret,s)
 |_,_=>none
def leaveC(fn:Func)(x:Ex×St):Option (Value×H):=
 match x.1 with
 |.exit _=>none
 |_=>match resultV P x.2.t x.2.h fn.results.toList with
  |some v=>some (v,x.2.h)
  |none=>none
def funcC(f:FuncId)(args:List Value)(h:H):Option (Value×H):=
 match P.funcs[f]? with
 |some fn=>match fn.body,argsT 0 args .nil,fn.name == "runtime.NumGoroutine" with
  |some c,some t,false=>match bCodeL P L c with
   |true=>match codeC P L N invN invL (args.length+(fn.ntmps-args.length)) c ⟨t,h,[]⟩ with
    |some x=>leaveC P fn x
    |none=>none
   |false=>none
  |_,_,_=>none
 |none=>none
end
def GetsK(K:Frame→List Frame→World→Prop)(b:Frame)(a:Act)(k:List Item)(cs:List Frame)(w:World):Ex→Prop
 |.normal=>K (b.atR a k) cs w
 |.exit id=>∃k',exitTo id k=some k'∧K (b.atR a k') cs w
 |.ret=>∀k0,K (b.atR a (.code .ret::k0)) cs w
def RunsK(K:Frame→List Frame→World→Prop)(n:Nat)(c:Code)(s:St)(x:Ex×St):Prop:=s.h.next≤x.2.h.next ∧
 ∀ρ b a k cs w,b.kind=.normal→b.roundOf=none→Stk cs→TR ρ n s.t a.tmps→HR ρ s.h w→Unb ρ s.h.next x.2.h.next→(∀ρ' a' w',a'.defers=a.defers→Stp ρ s.h w ρ' x.2.h w'→HR ρ' x.2.h w'→TR ρ' n x.2.t a'.tmps→GetsK K b a' k cs w' x.1)→K (b.atR a (.code c::k)) cs w
theorem Stp.tape{ρ ρ':Ev.Nms}{h h':H}{w w':World}(s:Stp ρ h w ρ' h' w')(t:Nat→Question→Nat):Stp ρ h w ρ' h' (wt w' t):=⟨s.le,s.next,s.born,s.size,s.log⟩
theorem go_text{b:Frame}{a:Act}{k k':List Item}{cs:List Frame}(h:∀w:World,(stepG P true (G (b.atR a k) cs) w)=.go (G (b.atR a k') cs) w #[])(w:World):∃es,stepG P true (G (b.atR a k) cs) w=.go (G (b.atR a k') cs) w es:=⟨#[],h w⟩
theorem code_K(hI:IvK P L N K invN invL)(hLN:∀f∈L,f∉N){n:Nat}:∀(c:Code) (s:St) (x:Ex×St),codeC P L N invN invL n c s=some x→RunsK K n c s x
 |.skip,s,x,e=>by
  cases e
  exact⟨Nat.le_refl _,fun ρ b a k cs w hbk hbr hcs ht hr hu hk=>hI.ups.item rfl hcs (go_text fun w=>by unfold Conc.G;simp[stepG,stepG.exec,Frame.atR]) fun tp=>hk ρ a (wt w tp) rfl (.refl ρ _ _ _ rfl) (hr.heap rfl) ht⟩
 |.label l,s,x,e=>by
  cases e
  exact⟨Nat.le_refl _,fun ρ b a k cs w hbk hbr hcs ht hr hu hk=>hI.ups.item rfl hcs (go_text fun w=>by unfold Conc.G;simp[stepG,stepG.exec,Frame.atR]) fun tp=>hk ρ a (wt w tp) rfl (.refl ρ _ _ _ rfl) (hr.heap rfl) ht⟩
 |.region id ops draw,s,x,e=>by
  simp only[codeC,regionC] at e
  split at e
  .split at e
   .rename_i t h e1
    cases e
    refine⟨ops_next hI.next e1,fun ρ b a k cs w hbk hbr hcs ht hr hu hk=>?_⟩
    refine hI.ups.item (k':=.inRegion ops (List.range ops.size)::k) rfl hcs (go_text fun w=>by unfold Conc.G;simp[stepG,stepG.exec,Frame.atR]) fun tp=>?_
    have hr':HR ρ s.h (wt w tp):=hr.heap rfl
    have key:=IvK.ops (b:=b) (k:=k) (cs:=cs) hI hLN hbk hbr hcs (i:=0) (by simp) e1 ht hr' hu fun ρ' a' w' d1 d2 d3 d4=>hk ρ' a' w' d1 (d2.heap rfl) d3 d4
    rw[List.range_eq_range']
    simpa using key
   .cases e
  .split at e
   .rename_i t h e1
    cases e
    obtain⟨_,TT,NX,RS,_,_,_,hh,hnx⟩:=drawn_fine hI.next e1
    refine⟨by show s.h.next≤h.next;rw[hh];exact hnx,fun ρ b a k cs w hbk hbr hcs ht hr hu hk=>?_⟩
    refine hI.ups.own (fit_at_item rfl) fun tp=>?_
    refine⟨b.atR a (.inRegion ops (Region.schedule (P.follows .mixedOrders) ops (tp w.drawn (.order b.fn id)))::k),cs,{wt w tp with drawn:=w.drawn+1},#[],?_,trivial,hcs,fun hc=>Ren.clean_same hc rfl,.of rfl,?_⟩
    .unfold Conc.G
     simp[stepG,stepG.exec,Frame.atR,choose,Sem.run,Question.forced,Question.cut,wt]
    .exact hI.drawn hLN e1 hbk hbr hcs _ ht (hr.heap rfl) hu fun ρ' a' w' d1 d2 d3 d4=>hk ρ' a' w' d1 (d2.heap rfl) d3 d4
   .cases e
 |.seq c d,s,x,e=>by
  simp only[codeC,thenO] at e
  split at e
  .rename_i s1 e1
   obtain⟨n1,h1⟩:=code_K hI hLN c s _ e1
   obtain⟨n2,h2⟩:=code_K hI hLN d s1 x e
   simp only at n1 h1
   refine⟨Nat.le_trans n1 n2,fun ρ b a k cs w hbk hbr hcs ht hr hu hk=>?_⟩
   refine hI.ups.item (k':=.code c::.code d::k) rfl hcs (go_text fun w=>by unfold Conc.G;simp[stepG,stepG.exec,Frame.atR]) fun tp=>?_
   refine h1 ρ b a (.code d::k) cs (wt w tp) hbk hbr hcs ht (hr.heap rfl) (hu.sub (Nat.le_refl _) n2) fun ρ1 a1 w1 d1 d2 d3 d4=>?_
   exact h2 ρ1 b a1 k cs w1 hbk hbr hcs d4 d3 ((hu.sub n1 (Nat.le_refl _)).step d2 (Nat.le_refl _)) fun ρ2 a2 w2 p1 p2 p3 p4=>hk ρ2 a2 w2 (p1.trans d1) ((d2.trans p2).heap (w:=w) rfl) p3 p4
  .rename_i y hy
   obtain⟨n1,h1⟩:=code_K hI hLN c s x e
   refine⟨n1,fun ρ b a k cs w hbk hbr hcs ht hr hu hk=>?_⟩
   refine hI.ups.item (k':=.code c::.code d::k) rfl hcs (go_text fun w=>by unfold Conc.G;simp[stepG,stepG.exec,Frame.atR]) fun tp=>?_
   refine h1 ρ b a (.code d::k) cs (wt w tp) hbk hbr hcs ht (hr.heap rfl) hu fun ρ1 a1 w1 d1 d2 d3 d4=>?_
   have hg:=hk ρ1 a1 w1 d1 (d2.heap rfl) d3 d4
   obtain⟨ex,sx⟩:=x
   cases ex with
   |normal=>exact absurd e (hy sx)
   |exit id=>obtain⟨k',q1,q2⟩:=hg;exact⟨k',by simpa[exitTo] using q1,q2⟩
   |ret=>exact hg
 |.cond c d1 d2,s,x,e=>by
  simp only[codeC] at e
  split at e
  .rename_i hc
   obtain⟨n1,h1⟩:=code_K hI hLN d1 s x e
   refine⟨n1,fun ρ b a k cs w hbk hbr hcs ht hr hu hk=>?_⟩
   have hb:a.eval c=.bool true:=(env_of ht _ _ hc).inv_bool
   refine hI.ups.item (k':=.code d1::k) rfl hcs (go_text fun w=>by
    have:=congrFun (Frame.eval_atR b a (.code (.cond c d1 d2)::k)) c
    simp only[Frame.atR] at this
    unfold Conc.G
    simp[stepG,stepG.exec,Frame.atR,this,hb]) fun tp=>?_
   exact h1 ρ b a k cs (wt w tp) hbk hbr hcs ht (hr.heap rfl) hu fun ρ1 a1 w1 q1 q2 q3 q4=>hk ρ1 a1 w1 q1 (q2.heap rfl) q3 q4
  .rename_i hc
   obtain⟨n1,h1⟩:=code_K hI hLN d2 s x e
   refine⟨n1,fun ρ b a k cs w hbk hbr hcs ht hr hu hk=>?_⟩
   have hb:a.eval c=.bool false:=(env_of ht _ _ hc).inv_bool
   refine hI.ups.item (k':=.code d2::k) rfl hcs (go_text fun w=>by
    have:=congrFun (Frame.eval_atR b a (.code (.cond c d1 d2)::k)) c
    simp only[Frame.atR] at this
    unfold Conc.G
    simp[stepG,stepG.exec,Frame.atR,this,hb]) fun tp=>?_
   exact h1 ρ b a k cs (wt w tp) hbk hbr hcs ht (hr.heap rfl) hu fun ρ1 a1 w1 q1 q2 q3 q4=>hk ρ1 a1 w1 q1 (q2.heap rfl) q3 q4
  .cases e
 |.block id c,s,x,e=>by
  simp only[codeC] at e
  cases hy:codeC P L N invN invL n c s with
  |none=>rw[hy] at e;simp[blockO] at e
  |some y=>
   rw[hy] at e
   obtain⟨n1,h1⟩:=code_K hI hLN c s y hy
   obtain⟨ey,sy⟩:=y
   have hx:x.2=sy∧(x.1=ey∨(ey=.exit id∧x.1=.normal))∧(ey=.exit id→x.1=.normal):=by
    unfold blockO at e
    split at e
    .rename_i i s' e0
     obtain⟨rfl,rfl⟩:=Prod.mk.inj (Option.some.inj e0)
     split at e
     .rename_i hb;cases e;obtain rfl:=Nat.eq_of_beq_eq_true hb;exact⟨rfl,.inr ⟨rfl,rfl⟩,fun _=>rfl⟩
     .rename_i hb;cases e;exact⟨rfl,.inl rfl,fun e1=>by cases e1;simp at hb⟩
    .rename_i hyy
     cases e
     exact⟨rfl,.inl rfl,fun e1=>by subst e1;exact absurd rfl (hyy id sy)⟩
   obtain⟨ex,sx⟩:=x
   simp only at hx n1 h1
   obtain⟨rfl,hx2,hx3⟩:=hx
   refine⟨n1,fun ρ b a k cs w hbk hbr hcs ht hr hu hk=>?_⟩
   refine hI.ups.item (k':=.code c::.inBlock id::k) rfl hcs (go_text fun w=>by unfold Conc.G;simp[stepG,stepG.exec,Frame.atR]) fun tp=>?_
   refine h1 ρ b a (.inBlock id::k) cs (wt w tp) hbk hbr hcs ht (hr.heap rfl) hu fun ρ1 a1 w1 d1 d2 d3 d4=>?_
   cases ey with
   |normal=>
    rcases hx2 with rfl|⟨h0,_⟩
    .exact hI.ups.item rfl hcs (go_text fun w=>by unfold Conc.G;simp[stepG,stepG.exec,Frame.atR]) fun tp1=>hk ρ1 a1 (wt w1 tp1) d1 ((d2.tape tp1).heap (w:=w) rfl) (d3.heap rfl) d4
    .cases h0
   |ret=>
    rcases hx2 with rfl|⟨h0,_⟩
    .exact hk ρ1 a1 w1 d1 (d2.heap rfl) d3 d4
    .cases h0
   |exit i=>
    by_cases hi:i=id
    .subst hi
     have:ex=.normal:=hx3 rfl
     subst this
     exact⟨k,by simp[exitTo],hk ρ1 a1 w1 d1 (d2.heap rfl) d3 d4⟩
    .rcases hx2 with rfl|⟨h0,_⟩
     .obtain⟨k',q1,q2⟩:=hk ρ1 a1 w1 d1 (d2.heap rfl) d3 d4
      have hne:(id==i)=false:=by simp;exact fun h=>hi h.symm
      exact⟨k',by simpa[exitTo,hne] using q1,q2⟩
     .cases h0;exact absurd rfl hi
 |.exit id,s,x,e=>by
  cases e
  refine⟨Nat.le_refl _,fun ρ b a k cs w hbk hbr hcs ht hr hu hk=>?_⟩
  obtain⟨k',q1,_⟩:=hk ρ a w rfl (.refl ρ _ _ _ rfl) hr ht
  refine hI.ups.item (k':=k') rfl hcs (go_text fun w=>by unfold Conc.G;simp[stepG,stepG.exec,Frame.atR,q1]) fun tp=>?_
  obtain⟨k2,p1,p2⟩:=hk ρ a (wt w tp) rfl (.refl ρ _ _ _ rfl) (hr.heap rfl) ht
  rw[q1] at p1;cases p1;exact p2
 |.ret,s,x,e=>by
  cases e
  exact⟨Nat.le_refl _,fun ρ b a k cs w hbk hbr hcs ht hr hu hk=>hk ρ a w rfl (.refl ρ _ _ _ rfl) hr ht k⟩
 |.scope c,s,x,e=>by simp[codeC] at e
 |.goto l,s,x,e=>by simp[codeC] at e
 |.refuse y,s,x,e=>by simp[codeC] at e
 |.loop c,s,x,e=>by simp[codeC] at e
 |.rangeFunc f ps as bd,s,x,e=>by simp[codeC] at e
theorem go_leave{fr c:Frame}{cs:List Frame}{w:World}{v:Value}(h:fr.leaving P w (.returned v)):∃es,stepG P true (G fr (c::cs)) w=.go (G (c.finish v) cs) w es:=by
 obtain⟨hm,hd,hk,fn,hf,hr⟩:=h
 unfold Conc.G
 exact⟨seen P fr.fn (Sem.events P (results fn fr.tmps) w #[]),by simp[stepG,unwind,doReturn,hm,hd,hk,hf,hr,GStep.after]⟩
theorem finish_mode(c:Frame)(v:Value):(c.finish v).mode=c.mode:=by
 unfold Frame.finish
 split<;>rfl
theorem func_K(hI:IvK P L N K invN invL)(hLN:∀f∈L,f∉N){f:FuncId}{args:List Value}{h h':H}{v:Value}(e:funcC P L N invN invL f args h=some (v,h')):FuncK P L N K f args h v h':=by
 unfold funcC at e
 split at e
 .rename_i fn hf
  split at e
  .rename_i c t hb ht hname
   split at e
   case h_2=>cases e
   rename_i hcl
   split at e
   .rename_i x hx
    obtain⟨n1,h1⟩:=code_K hI hLN c _ x hx
    have hx':(∃id,x.1=.exit id)∨(resultV P x.2.t x.2.h fn.results.toList=some v∧h'=x.2.h):=by
     unfold leaveC at e
     split at e
     .rename_i id hid;exact .inl ⟨id,hid⟩
     .split at e
      .rename_i u hu;cases e;exact .inr ⟨hu,rfl⟩
      .cases e
    have hne:¬ ∃id,x.1=.exit id:=fun⟨id,hid⟩=>by
     unfold leaveC at e
     rw[hid] at e
     cases e
    obtain⟨hres,rfl⟩:=hx'.resolve_left hne
    simp only at n1
    refine⟨n1,fn,c,hf,hb,hname,hcl,fun ρ args' w cf cs hcs hcm ha hr hu hk=>?_⟩
    let b:Frame:={ (default:Frame) with fn:=f,kind:=.normal}
    have hl:=ha.length
    have henter:Frame.enter P f ⟨args'⟩ .normal=b.atR {tmps:=(⟨args'⟩:Array Value)++Array.replicate (fn.ntmps-args.length) undef,defers:=[]} [.code c]:=by
     simp[Frame.enter,Frame.atR,hf,hb,b,hl]
     rfl
    rw[henter]
    have leave:∀ρ' a' w' k0,a'.defers=[]→Stp ρ h w ρ' x.2.h w'→HR ρ' x.2.h w'→TR ρ' (args.length+(fn.ntmps-args.length)) x.2.t a'.tmps→K {b.atR a' k0 with mode:=.returning} (cf::cs) w':=fun ρ' a' w' k0 d1 d2 d3 d4=>by
     have hlv:∀tp,∃v',({b.atR a' k0 with mode:=.returning}:Frame).leaving P (wt w' tp) (.returned v')∧VR ρ' v v':=fun tp=>by
      obtain⟨v',r1,r2⟩:=result_ok (fn:=fn) d4 (d3.heap (w':=wt w' tp) rfl) hres
      exact⟨v',⟨rfl,d1,rfl,fn,hf,r1⟩,r2⟩
     obtain⟨v0,hl0,_⟩:=hlv w'.tape
     refine hI.ups.own (@Fit.leaving _ P (spOf P L N) _ _ _ _ hl0) fun tp=>?_
     obtain⟨v',q1,q2⟩:=hlv tp
     obtain⟨es,hst⟩:=go_leave (c:=cf) (cs:=cs) q1
     exact⟨_,_,wt w' tp,es,hst,by rw[finish_mode];exact hcm,hcs,fun hc=>Ren.clean_same hc rfl,.of rfl,hk ρ' v' (wt w' tp) (d2.tape tp) (d3.heap rfl) q2⟩
    refine h1 ρ b _ [] (cf::cs) w rfl rfl (hcs.cons cf) (args_tr ht ha) hr hu fun ρ' a' w' d1 d2 d3 d4=>?_
    obtain⟨ex,sx⟩:=x
    cases ex with
    |exit id=>exact absurd ⟨id,rfl⟩ hne
    |normal=>
     show K (b.atR a' []) (cf::cs) w'
     refine hI.ups.own (@fit_nil _ P (spOf P L N) _ _ rfl rfl) fun tp=>?_
     exact⟨{b.atR a' [] with mode:=.returning},cf::cs,wt w' tp,#[],by unfold Conc.G;simp[stepG,stepG.exec,Frame.atR,b];rfl,trivial,hcs.cons cf,fun hc=>Ren.clean_same hc rfl,.of rfl,leave ρ' a' (wt w' tp) [] d1 (d2.tape tp) (d3.heap rfl) d4⟩
    |ret=>
     intro k0
     refine hI.ups.own (fit_at_item rfl) fun tp=>?_
     exact⟨{b.atR a' (.code .ret::k0) with mode:=.returning},cf::cs,wt w' tp,#[],by unfold Conc.G;simp[stepG,stepG.exec,Frame.atR,b];rfl,trivial,hcs.cons cf,fun hc=>Ren.clean_same hc rfl,.of rfl,leave ρ' a' (wt w' tp) _ d1 (d2.tape tp) (d3.heap rfl) d4⟩
   .cases e
  .cases e
 .cases e
end
section
variable[M:Mps]{P:Program}{L N:List FuncId}{K:Frame→List Frame→World→Prop}
def madeB(r:Option (Value×H))(e:Made):Bool:=match r with
 |some (u,h)=>eqV u e.v&&Nat.ble h.next e.nx'&&(h.log.all fun b=>Nat.ble e.nx b)&&(e.kn.all fun p=>Nat.blt p.1 top&&Nat.blt p.1 e.nx)&&(e.born.all fun p=>(match h.get p.1 with|some o=>eqOb o p.2|none=>false)&&(Nat.blt p.1 top&&Nat.ble e.nx p.1&&Nat.blt p.1 h.next))
 |none=>false
def Made.out(e:Made)(h:H):H:=⟨onto e.born h.t,e.nx',List.range' e.nx (e.nx'-e.nx)++h.log⟩
theorem FuncK.made{e:Made}{r:Option (Value×H)}(hb:madeB r e=true)(hq:∀v h1,r=some (v,h1)→FuncK P L N K e.f e.args (start e.kn e.nx) v h1){h:H}(hn:h.next≤e.nx)(hk:∀p∈e.kn,∃o,h.get p.1=some o∧o.Le p.2):FuncK P L N K e.f e.args h e.v (e.out h):=by
 unfold madeB at hb
 split at hb
 case h_2=>cases hb
 rename_i u h1
 simp only[Bool.and_eq_true] at hb
 obtain⟨⟨⟨⟨b1,b2⟩,b3⟩,b4⟩,b5⟩:=hb
 obtain⟨n1,fn,c,q1,q2,q3,q4,q5⟩:=hq u h1 rfl
 obtain rfl:=eqV_eq b1
 have n1:e.nx≤h1.next:=n1
 have n2:h1.next≤e.nx':=Nat.le_of_ble_eq_true b2
 have ht0:∀p∈e.kn,p.1<top∧p.1<e.nx:=fun p hp=>by have:=List.all_eq_true.1 b4 p hp;simpa only[Bool.and_eq_true,Nat.blt_eq] using this
 have ht:∀p∈e.kn,p.1<top:=fun p hp=>(ht0 p hp).1
 have hm:∀p∈e.born,(∃o,h1.get p.1=some o∧o.Le p.2)∧p.1<top∧e.nx≤p.1∧p.1<h1.next:=fun p hp=>by
  have:=List.all_eq_true.1 b5 p hp
  simp only[Bool.and_eq_true,Nat.blt_eq] at this
  refine⟨?_,this.2.1.1,Nat.le_of_ble_eq_true this.2.1.2,this.2.2⟩
  have h2:=this.1
  split at h2
  .rename_i o ho;exact⟨o,ho,eqOb_eq h2⟩
  .cases h2
 have hmt:∀p∈e.born,p.1<top:=fun p hp=>(hm p hp).2.1
 have hrange:∀b,b∈List.range' e.nx (e.nx'-e.nx)↔e.nx≤b∧b<e.nx':=fun b=>by rw[List.mem_range'_1];omega
 refine⟨Nat.le_trans hn (Nat.le_trans n1 n2),fn,c,q1,q2,q3,q4,fun ρ args' w c cs hcs hmo hva hr hu hK=>?_⟩
 have hu:Unb ρ h.next e.nx':=hu
 have hr0:HR ρ (start e.kn e.nx) w:=⟨hr.tame,fun b o hb=>by
  obtain⟨o1,h1,h2⟩:=hk (b,o) (ofList_mem ht hb)
  obtain⟨x,k,o',p1,p2,p3⟩:=hr.ob b o1 h1
  exact⟨x,k,o',p1,p2,h2.or p3⟩,fun b c x k l hb hc' hx hy=>by
  obtain⟨ob,hob⟩:=Option.isSome_iff_exists.1 hb
  obtain⟨oc,hoc⟩:=Option.isSome_iff_exists.1 hc'
  obtain⟨o1,h1,_⟩:=hk (b,ob) (ofList_mem ht hob)
  obtain⟨o2,h2,_⟩:=hk (c,oc) (ofList_mem ht hoc)
  exact hr.inj b c x k l (by rw[h1];rfl) (by rw[h2];rfl) hx hy⟩
 refine q5 ρ args' w c cs hcs hmo hva hr0 (hu.sub hn n2) fun ρ' v' w' s1 s2 s3=>?_
 obtain⟨l,e1,f1,o1,t1,k1,k2⟩:=s1.log
 have e1:h1.log=l:=by rw[e1];exact List.append_nil l
 have hlr:∀b,b∈l→e.nx≤b∧b<h1.next:=fun b hb=>by
  have h0:e.nx≤b:=Nat.le_of_ble_eq_true (List.all_eq_true.1 b3 b (by rw[e1];exact hb))
  rcases t1 b hb with h|h
  .obtain⟨o,ho⟩:=Option.isSome_iff_exists.1 h
   have:=(ht0 _ (ofList_mem ht ho)).2
   exact absurd h0 (Nat.not_le.2 this)
  .exact h
 have hl:∀b,b∈l→ρ b=.unborn:=fun b hb=>hu b (by have:=hlr b hb;omega) (by have:=hlr b hb;omega)
 have hun:∀b,e.nx≤b→b<e.nx'→ρ b=.unborn:=fun b h1 h2=>hu b (by omega) h2
 have hfr:∀x o,w.heap[x]?=some o→w'.heap[x]?=some o:=fun x o hx=>f1 x o hx fun b k hb hat=>by
  rw[hl b hb] at hat;cases hat
 have hkn:∀b o,h.get b=some o→ρ' b=ρ b∧¬(e.nx≤b∧b<e.nx'):=fun b o hb=>by
  obtain⟨x,k,o',p1,_⟩:=hr.ob b o hb
  exact⟨k2 b (fun hh=>by rw[hl b hh] at p1;cases p1) (by rw[p1];intro hh;cases hh),fun hh=>by rw[hun b hh.1 hh.2] at p1;cases p1⟩
 have hnew:∀b x k,ρ b=.unborn→ρ' b=.at_ x k→w.heap.size≤x:=fun b x k hb hx=>by
  rcases o1 b x k hx with h|⟨_,h2⟩
  .rw[hb] at h;cases h
  .rcases h2 with h2|⟨c,j,hc,hj⟩
   .exact h2
   .rw[hl c hc] at hj;cases hj
 refine hK ρ' v' w' ⟨s1.le,Nat.le_trans hn (Nat.le_trans n1 n2),fun b hb hx=>?_,s1.size,_,rfl,fun x o hx _=>hfr x o hx,fun b x k hb=>?_,fun b hb=>?_,fun b hb=>?_,fun b hb hub=>?_⟩ ⟨s2.tame,fun b o hb=>?_,fun b d x k j hb hd hx hy=>?_⟩ s3
 .have hx':b<h.next∨e.nx'≤b:=hx
  exact s1.born b hb (by show b<e.nx∨h1.next≤b;omega)
 .rcases o1 b x k hb with h|⟨h,h2⟩
  .exact .inl h
  .exact .inr ⟨h,.inl (hnew b x k h hb)⟩
 .have:=(hrange b).1 hb
  exact .inr ⟨by omega,this.2⟩
 .exact onto_not hmt fun p hp hh=>hb ((hrange b).2 (by have:=hm p hp;omega))
 .by_cases hbl:b∈l
  .exact absurd (hl b hbl) hub
  .exact k2 b hbl hub
 .rcases onto_mem hmt hb with h4|h4
  .obtain⟨o1,h5,h6⟩:=(hm _ h4).1
   obtain⟨x,k,o',p1,p2,p3⟩:=s2.ob b o1 h5
   exact⟨x,k,o',p1,p2,h6.or p3⟩
  .obtain⟨x,k,o',p1,p2,p3⟩:=hr.ob b o h4
   exact⟨x,k,o',by rw[(hkn b o h4).1];exact p1,hfr x o' p2,p3.mono s1.le⟩
 .obtain⟨ob,hob⟩:=Option.isSome_iff_exists.1 hb
  obtain⟨od,hod⟩:=Option.isSome_iff_exists.1 hd
  have low:∀b o x k,h.get b=some o→ρ' b=.at_ x k→ρ b=.at_ x k∧x<w.heap.size:=fun b o x k hb hx=>by
   rw[(hkn b o hb).1] at hx
   exact⟨hx,hr.lt hb hx⟩
  rcases onto_mem hmt hob with h4|h4<;>rcases onto_mem hmt hod with h5|h5
  .obtain⟨o4,h6,_⟩:=(hm _ h4).1
   obtain⟨o5,h7,_⟩:=(hm _ h5).1
   exact s2.inj b d x k j (by rw[h6];rfl) (by rw[h7];rfl) hx hy
  .have g1:=hm _ h4
   have:=hnew b x k (hun b g1.2.2.1 (by have:=g1.2.2.2;simp only at this;omega)) hx
   have:=(low d od x j h5 hy).2
   omega
  .have g1:=hm _ h5
   have:=hnew d x j (hun d g1.2.2.1 (by have:=g1.2.2.2;simp only at this;omega)) hy
   have:=(low b ob x k h4 hx).2
   omega
  .exact hr.inj b d x k j (by rw[show h.get b=some ob from h4];rfl) (by rw[show h.get d=some od from h5];rfl) (low b ob x k h4 hx).1 (low d od x j h5 hy).1
def fitK(e:Made)(f:FuncId)(args:List Value)(h:H):Bool:=Nat.beq e.f f&&Nat.ble h.next e.nx&&eqVs e.args args&&e.kn.all fun p=>match h.get p.1 with
 |some o=>eqOb o p.2
 |none=>false
def tabK:List Made→FuncId→List Value→H→Option (Value×H)
 |[],_,_,_=>none
 |e::es,f,args,h=>match fitK e f args h with
  |true=>some (e.v,e.out h)
  |false=>tabK es f args h
def MadeK(P:Program)(L N:List FuncId)(K:Frame→List Frame→World→Prop)(e:Made):Prop:=∀h:H,h.next≤e.nx→(∀p∈e.kn,∃o,h.get p.1=some o∧o.Le p.2)→FuncK P L N K e.f e.args h e.v (e.out h)
theorem MadeK.of{e:Made}{invN:FuncId→List Value→H→Option (Value×H)}{invL:Iv}(hI:IvK P L N K invN invL)(hN:N.contains e.f=true)(hb:madeB (invN e.f e.args (start e.kn e.nx)) e=true):MadeK P L N K e:=fun _ hn hk=>FuncK.made hb (fun _ _ e1=>hI.many _ _ _ _ _ (by simpa using hN) e1) hn hk
theorem tabK_ok{es:List Made}(h:∀e∈es,MadeK P L N K e){f:FuncId}{args:List Value}{h0 h':H}{v:Value}(he:tabK es f args h0=some (v,h')):FuncK P L N K f args h0 v h':=by
 induction es with
 |nil=>cases he
 |cons e es ih=>
  simp only[tabK] at he
  split at he
  .rename_i hfit
   cases he
   unfold fitK at hfit
   simp only[Bool.and_eq_true] at hfit
   obtain⟨⟨⟨h1,h2⟩,h3⟩,h4⟩:=hfit
   obtain rfl:=Nat.eq_of_beq_eq_true h1
   obtain rfl:=eqVs_eq h3
   refine h e (by simp) h0 (Nat.le_of_ble_eq_true h2) fun p hp=>?_
   have:=List.all_eq_true.1 h4 p hp
   split at this
   .rename_i o ho;exact⟨o,ho,eqOb_eq this⟩
   .cases this
  .exact ih (fun e he=>h e (by simp[he])) he
theorem IvK.tab{es:List Made}{invL:Iv}(hU:Ups P L N K)(hL:∀f args h v h',invL (.func f) args h=some (v,h')→FuncDoes P f args h v h')(h:∀e∈es,MadeK P L N K e):IvK P L N K (tabK es) invL:=⟨hU,hL,fun _ _ _ _ _ _ e=>tabK_ok h e⟩
end
end Go.Ev
