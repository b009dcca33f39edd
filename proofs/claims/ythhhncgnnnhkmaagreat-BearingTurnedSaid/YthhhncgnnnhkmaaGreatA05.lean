import Derived.IntWalk
import Derived.Test.YthhhncgnnnhkmaaGreatA03
set_option linter.all false
namespace Go.Ev
section
variable{P:Program}{ρ:Nms}{ρE:Operand→Option Value}{ρr:Operand→Value}
theorem repeated_len{α:Type}(z:List α):∀n,(repeated z n).length=n*z.length
 |0=>by simp[repeated]
 |n+1=>by simp[repeated,repeated_len z n,Nat.add_mul,Nat.add_comm]
theorem repeated_get{α:Type}(z:List α)(hz:0<z.length):∀(n j:Nat),j<n*z.length→(repeated z n)[j]?=z[j % z.length]?
 |0,j,h=>by omega
 |n+1,j,h=>by
  rw[repeated]
  by_cases hj:j<z.length
  .rw[List.getElem?_append_left hj,Nat.mod_eq_of_lt hj]
  .have hj':z.length≤j:=by omega
   rw[List.getElem?_append_right hj',repeated_get z hz n (j-z.length) (by rw[Nat.add_mul] at h;omega),Nat.mod_eq_sub_mod hj']
theorem repeated_array(z:Array Value)(n:Nat)(hz:0<z.size):(Array.range (n*z.size)).map (fun i=>z[i % z.size]!)=⟨repeated z.toList n⟩:=by
 apply Array.ext'
 apply List.ext_getElem?
 intro j
 by_cases hj:j<n*z.size
 .have h1:j % z.size<z.size:=Nat.mod_lt _ hz
  have h2:=repeated_get z.toList (by simpa using hz) n j (by simpa using hj)
  simp only[List.getElem?_toArray] at *
  rw[h2]
  simp[hj,h1]
 .have h3:(repeated z.toList n).length=n*z.size:=by rw[repeated_len];simp
  rw[List.getElem?_eq_none (by simp;omega),List.getElem?_eq_none (by simp;omega)]
theorem vrs_refl_repeated{z:Value}(hz:flat z=true):∀n,VRs ρ (repeated z.cells.toList n) (repeated z.cells.toList n)
 |0=>.nil
 |n+1=>(flat_self hz).cells.append (vrs_refl_repeated hz n)
theorem run_buildSlice{t el:TypeId}{len:Nat}{ps:Array (Nat×Value)}{j:TypeInfo}{z:Value}{r:Array Value}(w:World)(ht:P.underlying t=some (.slice el))(hj:P.info? el=some j)(hz:(zeroValue el).run P w=.ok z w)(hzs:z.cells.size=j.size)(h3:j.size≠0)(h1:len*j.size≤2 ^ 24)(hf:Instr.fill (fun i=>some (i*j.size,j.size)) ⟨repeated z.cells.toList len⟩ ps.toList=some r):(Instr.buildSlice t len ps).run P w=.ok (.slice (some ⟨w.heap.size,0,none⟩) len len) (w.alloc (.cells r el)):=by
 have hnl:¬len*j.size>2 ^ 24:=by omega
 have hzz:=repeated_array z.cells len (by omega)
 rw[hzs] at hzz
 by_cases h0:len=0
 .subst h0
  have hf0:Instr.fill (fun i=>some (i*j.size,j.size)) #[] ps.toList=some r:=hf
  simp[Instr.buildSlice,run_underlying ht,Go.sizeOf,typeInfo,hj,newRow,show Array.range 0=#[] from rfl,hf0]
 .have hne:¬(len*j.size=0):=fun e=>(Nat.mul_eq_zero.1 e).elim h0 h3
  have hne':¬(len=0∨j.size=0):=fun e=>e.elim h0 h3
  have hlt:¬16777216<len*j.size:=by omega
  simp[Instr.buildSlice,run_underlying ht,Go.sizeOf,typeInfo,hj,newRow,hne',hlt,hz,hzs]
  simp[hzz,hf]
  exact fun h=>absurd h hne
set_option maxHeartbeats 1000000 in
theorem heap_buildSlice(hE:Env ρ ρE ρr){h h':H}{w:World}(hr:HR ρ h w){t:TypeId}{len:Nat}{ps:Array (Nat×Operand)}{v:Value}(e:heapV P ρE (.buildSlice t len ps) h=.one (v,h'))(hu:∀b,h.next≤b→b<h'.next→ρ b=.unborn):Does P ρ h w (do pure (.value (← Instr.buildSlice t len (ps.map fun(i,x)=>(i,ρr x))))) v h':=by
 simp only[heapV] at e
 split at e
 .rename_i vs el hvs ht
  split at e
  .rename_i j z hj hz
   split at e
   .rename_i h1 h2 h3
    split at e
    .rename_i cs hf
     obtain⟨b,e1,rfl⟩:=made_inv e
     have h1:=Nat.le_of_ble_eq_true h1
     have h2:=Nat.eq_of_beq_eq_true h2
     have h3:j.size≠0:=fun e0=>by rw[e0] at h3;cases h3
     obtain⟨hzr,hzf⟩:=zero_ok hz w
     have hzs:z.cells.size=j.size:=by rw[←h2];simp
     obtain⟨r',f1,f2⟩:=fill_ok (fun i=>some (i*j.size,j.size)) (ps:=ps.toList.map (·.1)) (hE.opts hvs) (vrs_refl_repeated (ρ:=ρ) hzf len) hf
     obtain⟨ρ',s1,s2,_,s4⟩:=row_new hr f2 e1 hu
     have hps:(ps.map fun(i,x)=>(i,ρr x)).toList=(ps.toList.map (·.1)).zip (((ps.toList.map (·.2))).map ρr):=by
      rw[map_snd,List.map_map];rfl
     have hrun:=run_buildSlice (ps:=ps.map fun(i,x)=>(i,ρr x)) w ht hj hzr hzs h3 h1 (by rw[hps];exact f1)
     have hlen:len≤len*j.size:=Nat.le_mul_of_pos_right _ (by omega)
     exact⟨_,.slice (some ⟨w.heap.size,0,none⟩) len len,_,ρ',by simp[hrun],.inl rfl,s1,s2,.slice s4 (.inl ⟨by unfold soft;omega,rfl⟩)⟩
    .cases e
   .cases e
  .cases e
 .cases e
theorem run_makeSlice{t el:TypeId}{l c:Nat}{k k':IntKind}{j:TypeInfo}{z:Value}(w:World)(ht:P.underlying t=some (.slice el))(hj:P.info? el=some j)(hz:(zeroValue el).run P w=.ok z w)(hzs:z.cells.size=j.size)(h3:j.size≠0)(hl:l≤c)(hc:c<1000000)(hb:j.bytes<1000000):(Instr.makeSlice t (.int k (l:Int)) (.int k' (c:Int))).run P w=.ok (.slice (some ⟨w.heap.size,0,none⟩) l c) (w.alloc (.cells ⟨repeated z.cells.toList c⟩ el)):=by
 have hzz:=repeated_array z.cells c (by omega)
 rw[hzs] at hzz
 have w1:IntKind.i64.wrap (l:Int)=(l:Int):=IntWalk.i64_in _ (by omega)
 have w2:IntKind.i64.wrap (c:Int)=(c:Int):=IntWalk.i64_in _ (by omega)
 have hbc:(j.bytes:Int)*(c:Int)≤1000000000000:=by
  have h1:j.bytes*c≤1000000*1000000:=Nat.mul_le_mul (by omega) (by omega)
  have h2:((j.bytes*c:Nat):Int)≤((1000000*1000000:Nat):Int):=Int.ofNat_le.2 h1
  rwa[Int.natCast_mul] at h2
 have g1:¬(((c:Int)<0∨281474976710656<(j.bytes:Int)*(c:Int))∨(l:Int)<0∨(c:Int)<(l:Int)):=by omega
 have g2:¬((((c:Int)<0∨281474976710656<(j.bytes:Int)*(c:Int))∨(l:Int)<0)∨(c:Int)<(l:Int)):=by omega
 simp[Instr.makeSlice,run_underlying ht,Go.sizeOf,typeInfo,hj,asInt,asIntOf,w1,w2,newRow,g2]
 by_cases h0:c=0
 .subst h0
  obtain rfl:l=0:=by omega
  simp[show Array.range 0=#[] from rfl,repeated]
 .have hne:¬(c*j.size=0):=fun e=>(Nat.mul_eq_zero.1 e).elim h0 h3
  have hne':¬(c=0∨j.size=0):=fun e=>e.elim h0 h3
  have g3:¬((((c:Int)<0∨281474976710656<(j.bytes:Int)*(c:Int))∨(l:Int)<0)∨c<l):=by omega
  rw[if_neg g3,if_neg hne]
  simp[hz,hzs,hzz]
theorem heap_makeSlice(hE:Env ρ ρE ρr){h h':H}{w:World}(hr:HR ρ h w){t:TypeId}{l c:Operand}{v:Value}(e:heapV P ρE (.makeSlice t l c) h=.one (v,h'))(hu:∀b,h.next≤b→b<h'.next→ρ b=.unborn):Does P ρ h w (do pure (.value (← Instr.makeSlice t (ρr l) (ρr c)))) v h':=by
 simp only[heapV] at e
 split at e
 .rename_i el k1 li k2 ci ht hl hc
  split at e
  .rename_i l' c' j z el' ec' hj hz
   split at e
   .rename_i h1 h2 h3 h4
    obtain⟨b,e1,rfl⟩:=made_inv e
    obtain⟨rfl,q1⟩:=small_eq el'
    obtain⟨rfl,q2⟩:=small_eq ec'
    have h1:=Nat.le_of_ble_eq_true h1
    have h2:=Nat.eq_of_beq_eq_true h2
    have h3:j.size≠0:=fun e0=>by rw[e0] at h3;cases h3
    rw[Nat.blt_eq] at h4
    obtain⟨hzr,hzf⟩:=zero_ok hz w
    have hzs:z.cells.size=j.size:=by rw[←h2];simp
    obtain⟨ρ',s1,s2,_,s4⟩:=row_new hr (vrs_refl_repeated (ρ:=ρ) hzf c') e1 hu
    have hrun:=run_makeSlice (k:=k1) (k':=k2) w ht hj hzr hzs h3 h1 q2 h4
    have e2:=(env_one hE hl).inv_int
    have e3:=(env_one hE hc).inv_int
    exact⟨_,.slice (some ⟨w.heap.size,0,none⟩) l' c',_,ρ',by rw[e2,e3];simp[hrun],.inl rfl,s1,s2,.slice s4 (.inl ⟨by unfold soft;omega,rfl⟩)⟩
   .cases e
  .cases e
 .cases e
theorem map_of{h:H}{w:World}(hr:HR ρ h w){b b':Nat}{es:List MapEntry}{c:Nat}(hb:h.get b=some (.map es c))(hB:BR ρ b b'):∃k,ρ b=.at_ b' k∧w.heap[b']?=some (.map ⟨es⟩ c)∧flatE es=true:=by
 obtain⟨x,k,o',h1,h2,h3,h4⟩:=hr.ob b _ hb
 obtain rfl:=hB.at_ h1
 exact⟨k,h1,by rw[h2,h3],h4⟩
set_option maxHeartbeats 1000000 in
theorem heap_lookup(hE:Env ρ ρE ρr){h h':H}{w:World}(hr:HR ρ h w){t:TypeId}{x i:Operand}{ok:Bool}{v:Value}(e:heapV P ρE (.lookup t x i ok) h=.one (v,h')):Does P ρ h w (do pure (.value (← Instr.lookup t (ρr x) (ρr i) ok))) v h':=by
 simp only[heapV] at e
 split at e
 .rename_i kt et r iv ht hx hi
  split at e
  .rename_i es c hb hf
   obtain⟨r',hx',hB⟩:=(env_one hE hx).inv_map
   have hi':=(env_one hE hi).flat hf
   obtain⟨k,m1,m2,m3⟩:=map_of hr hb hB
   have hgo:(getObj r').run P w=.ok (.map ⟨es⟩ c) w:=by simp[getObj,Sem.run,m2]
   split at e
   .rename_i u1 x0 i0 v1 hk hfd
    split at e
    case h_2=>cases e
    rename_i hv1
    cases e
    have r1:=look_run hk w
    have r2:=look_run hfd w
    refine⟨_,(match ok with|true=>.tuple #[v1,.bool true]|false=>v1),w,ρ,?_,.inl rfl,.refl ρ h w w rfl,hr,?_⟩
    .simp[Instr.lookup,run_underlying ht,hx',hi',hgo,r1,r2]
     cases ok<;>rfl
    .cases ok
     .exact flat_self hv1
     .exact .tuple (.cons (flat_self hv1) (.cons (.same rfl) .nil))
   .rename_i u1 z hk hfd hz
    cases e
    have r1:=look_run hk w
    have r2:=look_run hfd w
    obtain⟨hzr,hzf⟩:=zero_ok hz w
    refine⟨_,(match ok with|true=>.tuple #[z,.bool false]|false=>z),w,ρ,?_,.inl rfl,.refl ρ h w w rfl,hr,?_⟩
    .simp[Instr.lookup,run_underlying ht,hx',hi',hgo,r1,r2,hzr]
     cases ok<;>rfl
    .cases ok
     .exact flat_self hzf
     .exact .tuple (.cons (flat_self hzf) (.cons (.same rfl) .nil))
   .cases e
  .cases e
 .cases e
theorem flatE_at{es:List MapEntry}(h:flatE es=true){i:Nat}{e:MapEntry}(hi:es[i]?=some e):flat e.key=true∧flat e.val=true:=by
 have:=List.all_eq_true.1 h e (List.mem_of_getElem? hi)
 split at this
 .exact⟨‹_›,this⟩
 .cases this
theorem keep_run{a b k:Value}(h:look P (Instr.keyThatStays a b)=some k):k=b:=by
 unfold Instr.keyThatStays at h
 split at h
 .simpa[look,pure] using h.symm
 .simp[look,choose,bind,Sem.bind] at h
set_option maxHeartbeats 1000000 in
theorem heap_update(hE:Env ρ ρE ρr){h h':H}{w:World}(hr:HR ρ h w){t:TypeId}{m k x:Operand}{v:Value}(e:heapV P ρE (.mapUpdate t m k x) h=.one (v,h')):Does P ρ h w (do Instr.mapUpdate t (ρr m) (ρr k) (ρr x);pure .skip) v h':=by
 simp only[heapV] at e
 split at e
 .rename_i kt et r kv xv ht hm hk hx
  split at e
  .rename_i es c hb hfk hfx htop
   obtain⟨r',hm',hB⟩:=(env_one hE hm).inv_map
   have hk':=(env_one hE hk).flat hfk
   have hx':=(env_one hE hx).flat hfx
   obtain⟨kk,m1,m2,m3⟩:=map_of hr hb hB
   rw[Nat.blt_eq] at htop
   have hgo:(getObj r').run P w=.ok (.map ⟨es⟩ c) w:=by simp[getObj,Sem.run,m2]
   have hso:∀o,(setObj r' o).run P w=.ok () {w with heap:=w.heap.setIfInBounds r' o}:=fun o=>by simp[setObj,Sem.run,m2]
   have hlt:=(Array.getElem?_eq_some_iff.1 m2).1
   split at e
   .rename_i u1 i1 v1 hck hfd
    have r1:=look_run hck w
    have r2:=look_run hfd w
    split at e
    .rename_i k2 hks
     cases e
     have hk2:=keep_run hks
     have r3:=look_run hks w
     obtain⟨s1,s2⟩:=put_ok (o:=.map (es.modify i1 fun e=>{e with key:=k2,val:=xv}) c) hb m1 htop (w:=w) (w':={w with heap:=w.heap.setIfInBounds r' (.map ⟨es.modify i1 fun e=>{e with key:=k2,val:=xv}⟩ c)})
      (by simp) (by simp[hlt]) (fun y hy=>by simp[Array.getElem?_setIfInBounds,Ne.symm hy]) hr ⟨rfl,by
       refine List.all_eq_true.2 fun e he=>?_
       obtain⟨j,hj⟩:=List.getElem?_of_mem he
       rw[List.getElem?_modify] at hj
       cases hej:es[j]? with
       |none=>rw[hej] at hj;simp at hj
       |some e0=>
        rw[hej] at hj
        obtain⟨a1,a2⟩:=flatE_at m3 hej
        by_cases hij:i1=j
        .simp[hij] at hj;subst hj;simp[hk2,hfk,hfx]
        .simp[hij] at hj;subst hj;simp[a1,a2]⟩
     refine⟨.skip,undef,{w with heap:=w.heap.setIfInBounds r' (.map ⟨es.modify i1 fun e=>{e with key:=k2,val:=xv}⟩ c)},ρ,?_,.inr ⟨rfl,rfl⟩,s1,s2,undef_rel⟩
     rw[hm',hk',hx']
     have hmod:(⟨es⟩:Array MapEntry).modify i1 (fun e=>{e with key:=k2,val:=xv})=⟨es.modify i1 fun e=>{e with key:=k2,val:=xv}⟩:=by apply Array.ext';simp
     simp[Instr.mapUpdate,run_underlying ht,hgo,r1,r2,r3,hso,hmod]
    .cases e
   .rename_i u1 hck hfd
    cases e
    have r1:=look_run hck w
    have r2:=look_run hfd w
    obtain⟨s1,s2⟩:=put_ok (o:=.map (es++[{key:=kv,val:=xv,born:=c}]) (c+1)) hb m1 htop (w:=w) (w':={w with heap:=w.heap.setIfInBounds r' (.map ⟨es++[{key:=kv,val:=xv,born:=c}]⟩ (c+1))})
     (by simp) (by simp[hlt]) (fun y hy=>by simp[Array.getElem?_setIfInBounds,Ne.symm hy]) hr ⟨rfl,by
      unfold flatE
      rw[List.all_append]
      simp[hfk,hfx]
      exact fun e he=>by have:=List.all_eq_true.1 m3 e he;simpa using this⟩
    refine⟨.skip,undef,_,ρ,?_,.inr ⟨rfl,rfl⟩,s1,s2,undef_rel⟩
    rw[hm',hk',hx']
    simp[Instr.mapUpdate,run_underlying ht,hgo,r1,r2,hso]
   .cases e
  .cases e
 .cases e
theorem goInt_eq(n:Nat):goInt n=.int .i64 n:=rfl
def copyN(h:H)(i:TypeInfo)(db xb:Option Addr)(n:Nat):Option (Value×H):=
 match(match xb with|none=>(match n with|0=>some []|_+1=>none)|some b=>loads h b (n*i.size)) with
 |some cs=>match db with
  |none=>some (.int .i64 n,h)
  |some a=>match stores h a cs with
   |some h'=>some (.int .i64 n,h')
   |none=>none
 |none=>none
set_option maxHeartbeats 1000000 in
theorem copy_ok{h h':H}{w:World}(hr:HR ρ h w){t ty:TypeId}{d d' x x' v:Value}{ts:Array TypeId}(hts:ts[0]?=some t)(hd:VR ρ d d')(hx:VR ρ x x')(e:copyV P h t d x=some (v,h')):∃v' w',(Builtin.copy_ ts ty #[d',x']).run P w=.ok v' w'∧Stp ρ h w ρ h' w'∧HR ρ h' w'∧VR ρ v v':=by
 unfold copyV at e
 split at e
 .rename_i el db dn dc xb xn xc ht
  split at e
  .rename_i i hi
   obtain⟨db',dc',rfl,_⟩:=hd.slice_len
   obtain⟨xb',xc',rfl,_⟩:=hx.slice_len
   obtain⟨n,hnn,e⟩:∃n,Nat.min xn dn=n∧copyN h i db xb n=some (v,h'):=by
    cases hb:Nat.ble xn dn
    .have:¬xn≤dn:=fun hle=>by rw[Nat.ble_eq_true_of_le hle] at hb;cases hb
     refine⟨dn,by simp only[Nat.min_def];rw[if_neg this],?_⟩
     rw[hb] at e;exact e
    .have:=Nat.le_of_ble_eq_true hb
     refine⟨xn,by simp only[Nat.min_def];rw[if_pos this],?_⟩
     rw[hb] at e;exact e
   unfold copyN at e
   split at e
   .rename_i cs hcs
    have hfirst:∃cs',(Builtin.firstCells i.size n (.slice xb' xn xc')).run P w=.ok ⟨cs'⟩ w∧VRs ρ cs cs':=by
     cases xb with
     |none=>
      obtain e0:=hx.inv_nilslice
      cases e0
      cases n with
      |zero=>cases hcs;exact⟨[],run_firstCells_none w i.size 0 xn xc,.nil⟩
      |succ n=>cases hcs
     |some xa=>
      obtain⟨xa',c'',e1,hxa,_⟩:=hx.inv_slice
      cases e1
      obtain⟨cs',q1,q2,q3⟩:=loads_ok hr hxa hcs
      exact⟨cs',run_firstCells_some (P:=P) w i.size n xa' xn xc' cs' q2 q3,q1⟩
    obtain⟨cs',f1,f2⟩:=hfirst
    cases db with
    |none=>
     cases e
     obtain e0:=hd.inv_nilslice
     cases e0
     exact⟨.int .i64 n,w,by simp[Builtin.copy_,hts,run_underlying ht,Go.sizeOf,typeInfo,hi,Builtin.lenOf,hnn,f1,goInt_eq],.refl ρ h w w rfl,hr,.same rfl⟩
    |some a=>
     obtain⟨a',c'',e1,ha,_⟩:=hd.inv_slice
     cases e1
     simp only at e
     split at e
     .rename_i h1 hst
      cases e
      obtain⟨w',t1,t2,t3⟩:=stores_ok (P:=P) hr ha f2 hst
      exact⟨.int .i64 n,w',by simp[Builtin.copy_,hts,run_underlying ht,Go.sizeOf,typeInfo,hi,Builtin.lenOf,hnn,f1,t1,goInt_eq],t2,t3,.same rfl⟩
     .cases e
   .cases e
  .cases e
 .cases e
theorem one_inv{r:R (Value×H)}{x:Value×H}(h:(match r with|.one x=>some x|_=>none)=some x):r=.one x:=by
 cases r<;>cases h
 rfl
theorem append_types{ts:Array TypeId}{t ty:TypeId}{args:Array Value}(h0:ts[0]?=some t)(h1:ts[1]?=some t):Builtin.append_ ts ty args=Builtin.append_ #[t,t] ty args:=by
 unfold Builtin.append_
 rw[h0,h1]
 rfl
theorem two_args{xs:Array Operand}{a b:Value}(h:VRs ρ [a,b] (xs.toList.map ρr)):∃a' b',xs.map ρr=#[a',b']∧VR ρ a a'∧VR ρ b b':=by
 generalize hl:xs.toList.map ρr=l at h
 cases h with
 |cons h1 h2=>
  cases h2 with
  |cons h3 h4=>
   cases h4
   exact⟨_,_,by apply Array.ext';simpa using hl,h1,h3⟩
set_option maxHeartbeats 1000000 in
theorem heap_ok{o:Oper}(hE:Env ρ ρE ρr){h h':H}{w:World}(hr:HR ρ h w){v:Value}(e:heapO P ρE o.op h=some (v,h'))(hu:∀b,h.next≤b→b<h'.next→ρ b=.unborn):Does P ρ h w (execOp ρr o) v h':=by
 unfold execOp
 cases hop:o.op<;>rw[hop] at e<;>simp only[heapO] at e<;>try (first|(cases e;done)|(simp only[heapV] at e;cases e;done))
 case alloc t=>exact heap_alloc hr (one_inv e) hu
 case box t x=>exact heap_box hE hr (one_inv e) hu
 case load t x=>exact heap_load hE hr (one_inv e)
 case store t x y=>exact heap_store hE hr (one_inv e)
 case makeMap t r=>
  cases r with
  |none=>exact heap_makeMap hr (one_inv e) hu
  |some r=>simp only[heapV] at e;cases e
 case buildSlice t len ps=>exact heap_buildSlice hE hr (one_inv e) hu
 case makeSlice t l c=>exact heap_makeSlice hE hr (one_inv e) hu
 case lookup t x i ok=>exact heap_lookup hE hr (one_inv e)
 case mapUpdate t m k x=>exact heap_update hE hr (one_inv e)
 case insert t m k x=>exact heap_update (t:=t) (m:=m) (k:=k) (x:=x) hE hr (by have:=one_inv e;simp only[heapV] at this⊢;exact this)
 case call c=>
  have e:=one_inv e
  simp only[heapV] at e
  split at e
  .rename_i s x hc hs
   split at e
   .rename_i t t1 h0 h1
    split at e
    .rename_i r htt hap
     cases e
     obtain rfl:=Nat.eq_of_beq_eq_true htt
     obtain⟨s',x',ha,h2,h3⟩:=two_args (hE.opts hs)
     obtain⟨v',w',ρ',q1,q2,q3,q4⟩:=appendW_ok (ty:=o.type) hr h2 h3 hap hu
     refine⟨.value v',v',w',ρ',?_,.inl rfl,q2,q3,q4⟩
     show(do let d ← resolve ρr c o.type;invoke d.target d.args:Sem Next).run P w=_
     rw[run_builtin hc,ha]
     simp[builtin,append_types h0 h1,q1]
    .cases e
   .cases e
  .rename_i d x hc hs
   split at e
   .rename_i t h0
    obtain⟨d',x',ha,h2,h3⟩:=two_args (hE.opts hs)
    cases hcp:copyV P h t d x with
    |none=>rw[hcp] at e;simp[R.ofOption] at e
    |some r=>
     rw[hcp] at e
     simp only[R.ofOption] at e
     cases e
     obtain⟨v',w',q1,q2,q3,q4⟩:=copy_ok (ty:=o.type) hr h0 h2 h3 hcp
     refine⟨.value v',v',w',ρ,?_,.inl rfl,q2,q3,q4⟩
     show(do let d ← resolve ρr c o.type;invoke d.target d.args:Sem Next).run P w=_
     rw[run_builtin hc,ha]
     simp[builtin,q1]
   .cases e
  .cases e
  .cases e
end
end Go.Ev
