/- Of the proof of BearingTurned: Wk33 Wk34 Wk35 Wk36 Wk37 Inst0 -/
import Derived.Test.YtlpjchhijenlbaaGreatA30
import Derived.Test.YtlpjchhijenlbaaGreatA10
set_option linter.unusedSectionVars false
set_option linter.unusedVariables false
set_option linter.unusedSimpArgs false
section
section
namespace Go
namespace Crew
open Go.Conc Go.ConcN Go.Ren
theorem DD.hr {iT elT:TypeId} {ints:Value→List Value} {v0 v:World} {p:List Value} {bs:List Lay} {sv:Value} (h:DD iT elT ints v0 v p bs sv) {ρ:Ev.aY} {hh:Ev.H} (hr:Ev.HR ρ hh v0):Ev.HR ρ hh v:=
 hr.Uz h.dH fun b o x k o' _ _ ho _=>by rw [h.old x (Array.getElem?_eq_some_iff.1 ho).1];exact ho
theorem UQ {inv:Ev.Iv} {fL:FuncId} {h:Ev.H} {u:Value} {ints:List Value} {iT:TypeId} (e:BL inv fL h u ints iT=true):∃ nm h',inv (.func fL) [u] ⟨h.t,h.next,[]⟩=some (.slice (some ⟨nm,0,none⟩) ints.length Ev.soft,h')∧Ev.ig ints=true∧h'.get nm=some (.cells ints iT (some 1))∧(∀ b∈h'.log,h.next≤b∧b<h'.next)∧h.next≤nm∧nm<h'.next:=by
 unfold BL at e
 split at e
 case h_2=>cases e
 rename_i nm len cap h' e1
 simp only [Bool.and_eq_true] at e
 obtain ⟨⟨⟨⟨⟨⟨e2,e3⟩,e4⟩,e5⟩,e6⟩,e7⟩,e9⟩:=e
 rw [Nat.blt_eq] at e9
 split at e2
 case h_2=>cases e2
 rename_i c t e8
 simp only [Bool.and_eq_true] at e2
 obtain rfl:=Ev.fM e2.1
 obtain rfl:=Nat.eq_of_beq_eq_true e2.2
 obtain rfl:=Nat.eq_of_beq_eq_true e3
 obtain rfl:=Nat.eq_of_beq_eq_true e4
 exact ⟨nm,h',e1,e5,e8,fun b hb=>by have:=List.all_eq_true.1 e6 b hb;simp only [Bool.and_eq_true,Nat.blt_eq] at this;exact ⟨Nat.le_of_ble_eq_true this.1,this.2⟩,Nat.le_of_ble_eq_true e7,e9⟩
section
variable {P:Program} {L N:List FuncId} {c:Gz} {inv:Ev.Iv} {Z:Nat→Prop} {w00:World} {Post:Value→World→Prop}
set_option maxHeartbeats 1000000 in
theorem Gz.round (hz:aN P) (hSk:kU P (· ∈ L)) (hI:∀ f args h v h',inv (.func f) args h=some (v,h')→Ev.aV P f args h v h') (hc:c.OK P L N) {ρ:Ev.aY} {h:Ev.H} {v0:World} {n nC gC kC cap hi nn:Nat} (hr:Ev.HR ρ h v0) (hC:ρ nC = .at_ gC kC) (hgC:gC<nn)
  (hu:Ev.gK ρ h.next hi) {tL:Ev.T Value} (hfree:c.free n tL=true) (hch:Ev.aG tL c.ML=some (.chan (some nC))) {ints:Value→List Value} {iT:TypeId} {u:Value} (huf:Ev.flat u=true) (hucl:aQ u=true) (huL:Ev.fO L [u]=true) (hround:c.nX P L n tL u=true) (hlist:BL inv c.fL h u (ints u) iT=true)
  (hhi:∀ h' v,inv (.func c.fL) [u] ⟨h.t,h.next,[]⟩=some (v,h')→h'.next≤hi)
  {b:Frame} (hbk:b.kind = .normal) (hbr:b.roundOf=none) {k0:List Item} {cs:List Frame} (hcs:Ev.qM cs) {p:List Value} {bs:List Lay} {sv:Value} (hp:p.length<1000000) {a:Act} {v:World} {l:List Value} (hG:DD iT c.el ints v0 v p bs sv) (ht:Ev.TR ρ n tL a.tmps) (h9:a.tmps[c.d9]? = some sv)
  (next:∀ a' v' bs' sv',a'.defers=a.defers→DD iT c.el ints v0 v' (p++[u]) bs' sv'→Ev.TR ρ n tL a'.tmps→a'.tmps[c.d9]? = some sv'→@lU (aK P L N) P (· ∈ L) Z w00 Post nn (iZ gC cap l) (b.atR a' (.code c.body :: .inLoop c.body::k0)) cs v') :
  @lU (aK P L N) P (· ∈ L) Z w00 Post nn (iZ gC cap (u::l)) (b.atR a (.code c.body :: .inLoop c.body::k0)) cs v:=by
 have hK0:Ev.kH P L N (@lU (aK P L N) P (· ∈ L) Z w00 Post nn (iZ gC cap (u::l))):=rf hz hSk (iZ.still hgC)
 have hK1:Ev.kH P L N (@lU (aK P L N) P (· ∈ L) Z w00 Post nn (iZ gC cap l)):=rf hz hSk (iZ.still hgC)
 have hfr:∀ d,d∈[c.d9,c.d28,c.d31,c.d33,c.d34,c.d35]→tL.get d=none∧d<n:=fun d hd=>by
  have:=List.all_eq_true.1 hfree d hd
  simp only [Bool.and_eq_true,Nat.blt_eq] at this
  refine ⟨?_,this.2⟩
  have h1:=this.1
  split at h1
  ·assumption
  ·cases h1
 obtain ⟨f9,n9⟩:=hfr c.d9 (by simp)
 obtain ⟨f28,n28⟩:=hfr c.d28 (by simp)
 obtain ⟨f31,n31⟩:=hfr c.d31 (by simp)
 obtain ⟨f33,n33⟩:=hfr c.d33 (by simp)
 obtain ⟨f34,n34⟩:=hfr c.d34 (by simp)
 obtain ⟨f35,n35⟩:=hfr c.d35 (by simp)
 unfold Gz.nX at hround
 split at hround
 case h_2=>cases hround
 rename_i t2 e1
 split at hround
 case h_2=>cases hround
 rename_i t3 ec e15
 split at hround
 case h_2=>cases hround
 rename_i t4 e32
 simp only [Bool.and_eq_true] at hround
 obtain ⟨e33,esub⟩:=hround
 split at e33
 case h_2=>cases e33
 rename_i us eus
 obtain rfl:=Ev.fM e33
 show @lU (aK P L N) P (· ∈ L) Z w00 Post nn (iZ gC cap (u::l)) (b.atR a (.code (.seq (.region c.i14 #[c.uM,c.uN] false) (.seq (.cond c.c29 .skip (.exit c.MP)) (.block c.Yi (.seq (.region c.i15 c.ET false) (.region c.i16 #[c.RH,c.o32,c.UA,c.Tm,c.Oo,c.RD] false))))) :: .inLoop c.body::k0)) cs v
 refine dW hK0 hcs fun v1 g1=>?_
 refine gp hK0 hcs fun v2 g2=>?_
 have hrng:List.range (#[c.uM,c.uN]:Array Oper).size=[0,1]:=rfl
 rw [hrng]
 have hwr:Region.wanted c.uM (yielded #[c.uM,c.uN] a.tmps)=true:=by unfold Region.wanted;rw [hc.rg]
 have hvc:a.eval c.ML = .chan (some gC):=by
  have h3:=Ev.dh ht _ _ hch
  generalize a.eval c.ML=x at h3
  cases h3 with
  | same h=>cases h
  | chan h4=>rw [h4.at_ hC]
 refine @lU.recv1 (aK P L N) P (· ∈ L) Z w00 Post b a _ cs v2 #[c.uM,c.uN] 0 [1] c.uM hbr rfl hwr c.TI c.MB c.dch c.ML c.QD u hc.rop hc.TI hc.QD (Ev.sZ hc.Yf) gC cap nn l hvc hucl ?_
 rw [hc.rd]
 generalize ha1:a.put (some c.d28) (.tuple #[u,.bool true])=a1
 have ht1:Ev.TR ρ n (Ev.T.put Ev.T.deep tL c.d28 (some (.tuple ⟨[u,.bool true]⟩))) a1.tmps:=by
  have h1:Ev.TR ρ n tL a1.tmps:=by rw [←ha1];exact ht.sW f28 _
  exact h1.know hc.l28 (v:=.tuple #[u,.bool true]) (by rw [←ha1];exact Ev.lG a (by rw [ht.size];exact n28) _) (.tuple (.cons (Ev.bF huf) (.cons (.same rfl) .nil)))
 have h91:a1.tmps[c.d9]? = some sv:=by rw [←ha1,Ev.pq _ hc.n9.2.2.2.2];exact h9
 have hrng1:([1]:List Nat)=List.range' 1 [c.uN].length++[]:=rfl
 rw [hrng1]
 refine hK1.BF hcs (l:=[c.uN]) (i:=1) (rest:=[]) (fun j hj=>by simp at hj;subst hj;rfl) e1 ht1 fun a2 v3 d1 d2 d3 d4=>?_
 have h92:a2.tmps[c.d9]? = some sv:=by rw [d4 c.d9 (fun o ho=>by rw [List.mem_singleton.1 ho];exact hc.k14)];exact h91
 refine lg hK1 hcs fun v4 g4=>?_
 refine dW hK1 hcs fun v5 g5=>?_
 refine zx hK1 hcs (q:=true) (Ev.dh d3 _ _ ec).dQ fun v6 g6=>?_
 refine Kr hK1 hcs fun v7 g7=>?_
 refine xE hK1 hcs fun v8 g8=>?_
 refine dW hK1 hcs fun v9 g9=>?_
 refine ND hK1 hcs e15 d3 fun a3 v10 d5 d6 d7 d8=>?_
 have h93:a3.tmps[c.d9]? = some sv:=by rw [d8 c.d9 hc.k15];exact h92
 refine gp hK1 hcs fun v11 g11=>?_
 have hG11:DD iT c.el ints v0 v11 p bs sv:=hG.same (by rw [g11,d6,g9,g8,g7,g6,g5,g4,d2,g2,g1])
 have hrng6:List.range (#[c.RH,c.o32,c.UA,c.Tm,c.Oo,c.RD]:Array Oper).size=0::(List.range' 1 [c.o32].length++[2,3,4,5]):=rfl
 rw [hrng6]
 have hwant:∀ (o:Oper) (tm:Array Value),o.guard=none→Region.wanted o (yielded #[c.RH,c.o32,c.UA,c.Tm,c.Oo,c.RD] tm)=true:=fun o tm hg=>by unfold Region.wanted;rw [hg]
 refine hK1.YD hcs (i:=0) (o:=c.RH) rfl (hwant _ _ hc.g31) hc.op31 hc.b31 fun v12 g12=>?_
 have hev9:a3.eval (.tmp c.d9)=sv:=by
  show a3.tmps.getD c.d9 undef=_
  rw [Array.getD_eq_getD_getElem?,h93];rfl
 rw [hev9,hc.d31]
 generalize ha4:a3.put (some c.d31) sv=a4
 have ht4:Ev.TR ρ n (Ev.strike t3 c.d31) a4.tmps:=by rw [←ha4];exact d7.forget hc.l31 _
 have h31:a4.tmps[c.d31]? = some sv:=by rw [←ha4];exact Ev.lG a3 (by rw [d7.size];exact n31) _
 refine hK1.BF hcs (l:=[c.o32]) (i:=1) (rest:=[2,3,4,5]) (fun j hj=>by simp at hj;subst hj;rfl) e32 ht4 fun a5 v13 q1 q2 q3 q4=>?_
 have h315:a5.tmps[c.d31]? = some sv:=by rw [q4 c.d31 (fun o ho=>by rw [List.mem_singleton.1 ho];exact hc.k32)];exact h31
 have htL5:Ev.TR ρ n tL a5.tmps:=q3.sub esub
 have hG13:DD iT c.el ints v0 v13 p bs sv:=hG11.same (by rw [q2,g12])
 obtain ⟨nm,h',el1,el2,el3,el4,el5,el6⟩:=UQ hlist
 have hh':=hhi h' _ el1
 have hr0:Ev.HR ρ ⟨h.t,h.next,[]⟩ v13:=⟨(hG13.hr hr).dH,(hG13.hr hr).ob,(hG13.hr hr).inj⟩
 have hu0:Ev.gK ρ (⟨h.t,h.next,[]⟩:Ev.H).next h'.next:=hu.sub (Nat.le_refl _) hh'
 refine hK1.YP (t:=t4) (h:=⟨h.t,h.next,[]⟩) hc.op33 eus (hI _ _ _ _ _ el1) hc.fLL hc.fLN huL hc.b33 rfl (hwant _ _ hc.g33) q3 hr0 hu0 hcs fun ρ' v' w' s1 s2 s3=>?_
 obtain ⟨x,kx,ox,x1,x2,dx,rx,rfl,x4,_,x6⟩:=s2.ob nm _ el3
 obtain ⟨x7,x8,_⟩:=x6 1 rfl
 have hdx:dx=ints u:=x4.ig el2
 subst hdx
 obtain ⟨ax,cx,rfl,y1,y2⟩:=s3.iE
 obtain ⟨ab,ao,asp⟩:=ax
 have y3:ab=x:=y1.block.at_ x1
 have y4:ao=0:=y1.off
 have y5:asp=none:=y1.spot'
 subst y3 y4 y5
 have y6:cx=kx:=by
  rcases y2 with ⟨y2,_⟩ | ⟨_,_,y2⟩
  ·exact absurd y2 (Nat.lt_irrefl _)
  ·exact y2 _ _ x1
 subst y6
 obtain ⟨ll,l1,l2,l3,l4,_⟩:=s1.log
 have l1':h'.log=ll:=by rw [l1];exact List.append_nil ll
 have hunl:∀ b∈ll,ρ b = .aT:=fun b hb=>by
  obtain ⟨m1,m2⟩:=el4 b (by rw [l1'];exact hb)
  exact hu b m1 (Nat.lt_of_lt_of_le m2 hh')
 have hkeep:∀ (y:Nat) (o:Obj),v13.heap[y]? = some o→w'.heap[y]? = some o:=fun y o hy=>l2 y o hy fun b k hb=>by rw [hunl b hb];exact fun h=>by cases h
 have hnmu:ρ nm = .aT:=hu nm el5 (Nat.lt_of_lt_of_le el6 hh')
 have hxf:v13.heap.size≤ab:=by
  rcases l3 nm ab cx x1 with h1 | ⟨_,h1 | ⟨b',m,h1,h2⟩⟩
  ·rw [hnmu] at h1;cases h1
  ·exact h1
  ·rw [hunl b' h1] at h2;cases h2
 have hGc:DD iT c.el ints v0 w' p bs sv:=hG13.keep hkeep s1.size s2.dH
 rw [hc.d33]
 generalize ha6:a5.put (some c.d33) (.slice (some ⟨ab,0,none⟩) (ints u).length cx)=a6
 have htL6:Ev.TR ρ n tL a6.tmps:=by rw [←ha6];exact htL5.sW f33 _
 have h316:a6.tmps[c.d31]? = some sv:=by rw [←ha6,Ev.pq _ hc.n9.1];exact h315
 have h336:a6.eval (.tmp c.d33) = .slice (some ⟨ab,0,none⟩) (ints u).length cx:=by
  show a6.tmps.getD c.d33 undef=_
  rw [Array.getD_eq_getD_getElem?,← ha6,Ev.lG a5 (by rw [htL5.size];exact n33)];rfl
 refine hK1.build1 hcs (i:=3) (o:=c.Tm) rfl (hwant _ _ hc.g34) hc.op34 hc.b34 hc.ts hc.ti hc.z hc.ti1 hc.z1 h336 rfl (uZ _ _ _) fun w2 hw2=>?_
 rw [hc.d34]
 generalize ha7:a6.put (some c.d34) (.slice (some ⟨w'.heap.size,0,none⟩) 1 1)=a7
 have htL7:Ev.TR ρ n tL a7.tmps:=by rw [←ha7];exact htL6.sW f34 _
 have h317:a7.eval (.tmp c.d31)=sv:=by
  show a7.tmps.getD c.d31 undef=_
  rw [Array.getD_eq_getD_getElem?,← ha7,Ev.pq _ hc.n9.2.1,h316];rfl
 have h347:a7.eval (.tmp c.d34) = .slice (some ⟨w'.heap.size,0,none⟩) 1 1:=by
  show a7.tmps.getD c.d34 undef=_
  rw [Array.getD_eq_getD_getElem?,← ha7,Ev.lG a6 (by rw [htL6.size];exact n34)];rfl
 have hkeep2:∀ (y:Nat) (o:Obj),w'.heap[y]? = some o→w2.heap[y]? = some o:=fun y o hy=>by
  have:=(Array.getElem?_eq_some_iff.1 hy).1
  rw [hw2,Array.getElem?_push,if_neg (by omega)];exact hy
 have hG2:DD iT c.el ints v0 w2 p bs sv:=hGc.keep hkeep2 (by rw [hw2];simp) (s2.dH.push hw2 rfl)
 have hx2':w2.heap[ab]? = some (.cells ⟨ints u++rx⟩ iT (0,0)):=hkeep2 _ _ x2
 have hB2:w2.heap[w'.heap.size]? = some (.cells #[.slice (some ⟨ab,0,none⟩) (ints u).length cx] c.el (0,0)):=by rw [hw2];simp
 have hablt:ab<w'.heap.size:=(Array.getElem?_eq_some_iff.1 x2).1
 have happ:∀ tp,∃ A cA w3 r3,(Builtin.append_ #[c.ts,c.ts] c.Oo.type #[sv,.slice (some ⟨w'.heap.size,0,none⟩) 1 1]).run P (wt w2 tp) = .ok (.slice (some ⟨A,0,none⟩) (p.length+1) cA) w3∧∃ old d,Ev.GL P L (wt w2 tp) old d (.slice (some ⟨ab,0,none⟩) (ints u).length cx) c.el A cA w3 r3∧d=List.zipWith (fun u (b:Lay)=>Value.slice (some ⟨b.1,0,none⟩) (ints u).length b.2.1) p bs∧(∀ A0,old=some A0→v0.heap.size≤A0∧A0∉bs.map (·.1)∧A0≠ab∧A0<w2.heap.size):=fun tp=>by
  have hB2':(wt w2 tp).heap[w'.heap.size]? = some (.cells #[.slice (some ⟨ab,0,none⟩) (ints u).length cx] c.el (0,0)):=hB2
  rcases hG2.row with ⟨rfl,rfl⟩ | ⟨A0,c0,r0,rfl,z1,z2,z3,z4⟩
  ·obtain ⟨A,cA,w3,r3,m1,m2⟩:=Ev.Nb (P:=P) (L:=L) (w:=wt w2 tp) (ty:=c.Oo.type) (cB:=1) hc.ts hc.ti hc.z hc.ti1 hc.z1 hc.tib hB2'
   exact ⟨A,cA,w3,r3,m1,none,[],m2,by simp,fun _ h=>by cases h⟩
  ·have z1':(wt w2 tp).heap[A0]? = some (.cells ⟨List.zipWith (fun u (b:Lay)=>Value.slice (some ⟨b.1,0,none⟩) (ints u).length b.2.1) p bs++r0⟩ c.el (0,0)):=z1
   have hA0:A0<v13.heap.size:=by
    rcases hG13.row with ⟨hp0,hs0⟩ | ⟨A1,c1,r1,hs1,z5,_⟩
    ·cases hs0
    ·cases hs1;exact (Array.getElem?_eq_some_iff.1 z5).1
   have h13:=s1.size
   obtain ⟨A,cA,w3,r3,m1,m2⟩:=Ev.Na (P:=P) (L:=L) (w:=wt w2 tp) (ty:=c.Oo.type) (cB:=1) (j:=p.length) hc.ts hc.ti hc.z hc.ti1 hc.z1 hc.tib hp z1' (by simp [hG2.len]) z2 (by omega) rfl hB2'
   exact ⟨A,cA,w3,r3,m1,some A0,_,m2,rfl,fun A1 h=>by cases h;exact ⟨z3,z4,by omega,(Array.getElem?_eq_some_iff.1 z1).1⟩⟩
 refine hK1.append hcs (i:=4) (o:=c.Oo) rfl (hwant _ _ hc.g35) hc.op35 hc.b35 h317 h347 fun tp=>?_
 obtain ⟨A,cA,w3,r3,m1,old,d,m2,rfl,m3⟩:=happ tp
 refine ⟨_,w3,m1,fun hcl=>m2.clean (Ren.aX hcl rfl),fun b' o' k1 k2 o2 k3=>by rw [m2.stays b' o' k1 k2] at k3;rw [←Option.some.inj k3];exact k2,?_⟩
 rw [hc.d35]
 generalize ha8:a7.put (some c.d35) (.slice (some ⟨A,0,none⟩) (p.length+1) cA)=a8
 have htL8:Ev.TR ρ n tL a8.tmps:=by rw [←ha8];exact htL7.sW f35 _
 have h358:a8.eval (.tmp c.d35) = .slice (some ⟨A,0,none⟩) (p.length+1) cA:=by
  show a8.tmps.getD c.d35 undef=_
  rw [Array.getD_eq_getD_getElem?,← ha8,Ev.lG a7 (by rw [htL7.size];exact n35)];rfl
 refine hK1.YD hcs (i:=5) (o:=c.RD) rfl (hwant _ _ hc.g36) hc.op36 hc.b36 fun v14 g14=>?_
 rw [h358,hc.d36]
 refine lg hK1 hcs fun v15 g15=>?_
 refine Cf hK1 hcs fun v16 g16=>?_
 refine Ea hK1 hcs fun v17 g17=>?_
 have e17:v17.heap=w3.heap:=by rw [g17,g16,g15,g14]
 refine next (a8.put (some c.d9) (.slice (some ⟨A,0,none⟩) (p.length+1) cA)) v17 (bs++[(ab,cx,rx)]) (.slice (some ⟨A,0,none⟩) (p.length+1) cA) ?_ (DD.same ?_ e17) (htL8.sW f9 _) (Ev.lG a8 (by rw [htL8.size];exact n9) _)
 ·rw [Ev.put_defers,← ha8,Ev.put_defers,← ha7,Ev.put_defers,← ha6,Ev.put_defers,q1,← ha4,Ev.put_defers,d5,d1,← ha1,Ev.put_defers]
 ·have hw2sz:w2.heap.size=w'.heap.size+1:=by rw [hw2];simp
  have h13:=s1.size
  have hv0:=hG13.size
  have keep3:∀ y,y<w2.heap.size→old≠some y→w3.heap[y]? = w2.heap[y]?:=fun y hy ho=>m2.keep y hy ho
  have hlow:∀ y∈bs.map (·.1),y<v13.heap.size:=fun y hy=>hG13.low hy
  have hAb:A∉(bs++[(ab,cx,rx)]).map (·.1)∧v0.heap.size≤A:=by
   rcases m2.at_ with h1 | h1
   ·obtain ⟨k1,k2,k3,_⟩:=m3 A h1
    exact ⟨by simp only [List.map_append,List.map_cons,List.map_nil,List.mem_append,List.mem_singleton,not_or];exact ⟨k2,k3⟩,k1⟩
   ·have h1:A=w2.heap.size:=h1
    refine ⟨by
     simp only [List.map_append,List.map_cons,List.map_nil,List.mem_append,List.mem_singleton,not_or]
     exact ⟨fun h=>by have:=hlow A h;omega,by omega⟩,by omega⟩
  have hzip:List.zipWith (fun u (b:Lay)=>Value.slice (some ⟨b.1,0,none⟩) (ints u).length b.2.1) (p++[u]) (bs++[(ab,cx,rx)])=List.zipWith (fun u (b:Lay)=>Value.slice (some ⟨b.1,0,none⟩) (ints u).length b.2.1) p bs++[.slice (some ⟨ab,0,none⟩) (ints u).length cx]:=by
   rw [List.zipWith_append hG.len.symm];rfl
  refine ⟨by simp [hG.len],fun i u' b' hi' hb'=>?_,?_,.inr ⟨A,cA,r3,by simp,?_,?_,hAb.2,hAb.1⟩,fun y hy=>?_,?_,m2.dH hG2.dH⟩
  ·have hne:∀ y,y∈(bs++[(ab,cx,rx)]).map (·.1)→old≠some y:=fun y hy ho=>by
    obtain ⟨_,k2,k3,_⟩:=m3 y ho
    simp only [List.map_append,List.map_cons,List.map_nil,List.mem_append,List.mem_singleton] at hy
    rcases hy with hy | hy
    ·exact k2 hy
    ·exact k3 hy
   have hbm:b'.1∈(bs++[(ab,cx,rx)]).map (·.1):=List.mem_map.2 ⟨b',List.mem_of_getElem? hb',rfl⟩
   rcases Nat.lt_or_ge i p.length with hlt | hge
   ·rw [List.getElem?_append_left hlt] at hi'
    rw [List.getElem?_append_left (by rw [hG.len];exact hlt)] at hb'
    obtain ⟨k1,k2⟩:=hG2.rows i u' b' hi' hb'
    exact ⟨by rw [keep3 _ (Array.getElem?_eq_some_iff.1 k1).1 (hne _ hbm)];exact k1,k2⟩
   ·have hi0:i=p.length:=by
     have:=(List.getElem?_eq_some_iff.1 hi').1
     simp at this;omega
    subst hi0
    rw [List.getElem?_append_right (Nat.le_refl _)] at hi'
    rw [List.getElem?_append_right (by rw [hG.len];exact Nat.le_refl _)] at hb'
    simp [hG.len] at hi' hb'
    subst hi' hb'
    exact ⟨by rw [keep3 _ (by omega) (hne _ hbm)];exact hx2',by rw [x7,Nat.mul_one],x8,by omega⟩
  ·rw [List.map_append,List.nodup_append]
   refine ⟨hG.nd,by simp,fun y hy z hz=>?_⟩
   simp only [List.map_cons,List.map_nil,List.mem_singleton] at hz
   have:=hlow y hy
   omega
  ·rw [hzip];exact m2.row
  ·rw [hzip];exact m2.cap
  ·have hne:old≠some y:=fun ho=>by have:=(m3 y ho).1;omega
   rw [keep3 y (by omega) hne]
   exact hG2.old y hy
  ·have:w2.heap.size≤w3.heap.size:=m2.size
   omega
end
end Crew
end Go
end
end
section
section
namespace Go
namespace Crew
open Go.Conc Go.ConcN Go.Ren
def Gz.Qo (P:Program) (L:List FuncId) (c:Gz) (n:Nat) (tL:Ev.T Value):Bool:=
 Ev.flat c.QD&&match Ev.jU P L n [c.uM,c.uN] [c.uN] (Ev.T.put Ev.T.deep tL c.d28 (some (.tuple ⟨[c.QD,.bool false]⟩))) with
 | some t2=>(match Ev.aG t2 c.c29 with | some (.bool false)=>true | _=>false)&&Ev.KA tL t2
 | none=>false
section
variable {P:Program} {L N:List FuncId} {c:Gz} {inv:Ev.Iv} {Z:Nat→Prop} {w00:World} {Post:Value→World→Prop}
theorem Gz.exit (hz:aN P) (hSk:kU P (· ∈ L)) (hc:c.OK P L N) {ρ:Ev.aY} {n nC gC kC cap nn:Nat} (hC:ρ nC = .at_ gC kC) (hgC:gC<nn)
  {tL:Ev.T Value} (hfree:c.free n tL=true) (hch:Ev.aG tL c.ML=some (.chan (some nC))) (he:c.Qo P L n tL=true) {iT:TypeId} {ints:Value→List Value} {v0:World}
  {b:Frame} (hbr:b.roundOf=none) {k0:List Item} {cs:List Frame} (hcs:Ev.qM cs) {p:List Value} {bs:List Lay} {sv:Value} {a:Act} {v:World} (hG:DD iT c.el ints v0 v p bs sv) (ht:Ev.TR ρ n tL a.tmps) (h9:a.tmps[c.d9]? = some sv)
  (next:∀ a' v',a'.defers=a.defers→DD iT c.el ints v0 v' p bs sv→Ev.TR ρ n tL a'.tmps→a'.tmps[c.d9]? = some sv→@lU (aK P L N) P (· ∈ L) Z w00 Post nn (iZ gC cap []) (b.atR a' k0) cs v') :
  @lU (aK P L N) P (· ∈ L) Z w00 Post nn (iZ gC cap []) (b.atR a (.code c.body :: .inLoop c.body :: .inBlock c.MP::k0)) cs v:=by
 have hK:Ev.kH P L N (@lU (aK P L N) P (· ∈ L) Z w00 Post nn (iZ gC cap [])):=rf hz hSk (iZ.still hgC)
 have hfr:tL.get c.d28=none∧c.d28<n:=by
  have:=List.all_eq_true.1 hfree c.d28 (by simp)
  simp only [Bool.and_eq_true,Nat.blt_eq] at this
  refine ⟨?_,this.2⟩
  have h1:=this.1
  split at h1
  ·assumption
  ·cases h1
 obtain ⟨f28,n28⟩:=hfr
 unfold Gz.Qo at he
 simp only [Bool.and_eq_true] at he
 obtain ⟨hzf,he⟩:=he
 split at he
 case h_2=>cases he
 rename_i t2 e1
 simp only [Bool.and_eq_true] at he
 obtain ⟨ec,esub⟩:=he
 split at ec
 case h_2=>cases ec
 rename_i hec
 show @lU (aK P L N) P (· ∈ L) Z w00 Post nn (iZ gC cap []) (b.atR a (.code (.seq (.region c.i14 #[c.uM,c.uN] false) (.seq (.cond c.c29 .skip (.exit c.MP)) (.block c.Yi (.seq (.region c.i15 c.ET false) (.region c.i16 #[c.RH,c.o32,c.UA,c.Tm,c.Oo,c.RD] false))))) :: .inLoop c.body :: .inBlock c.MP::k0)) cs v
 refine dW hK hcs fun v1 g1=>?_
 refine gp hK hcs fun v2 g2=>?_
 have hrng:List.range (#[c.uM,c.uN]:Array Oper).size=[0,1]:=rfl
 rw [hrng]
 have hwr:Region.wanted c.uM (yielded #[c.uM,c.uN] a.tmps)=true:=by unfold Region.wanted;rw [hc.rg]
 have hvc:a.eval c.ML = .chan (some gC):=by
  have h3:=Ev.dh ht _ _ hch
  generalize a.eval c.ML=x at h3
  cases h3 with
  | same h=>cases h
  | chan h4=>rw [h4.at_ hC]
 refine @lU.recv0 (aK P L N) P (· ∈ L) Z w00 Post b a _ cs v2 #[c.uM,c.uN] 0 [1] c.uM hbr rfl hwr c.TI c.MB c.dch c.ML c.QD hc.rop hc.TI hc.QD (Ev.sZ hc.Yf) gC cap nn hvc hc.zcl ?_
 rw [hc.rd]
 generalize ha1:a.put (some c.d28) (.tuple #[c.QD,.bool false])=a1
 have ht1:Ev.TR ρ n (Ev.T.put Ev.T.deep tL c.d28 (some (.tuple ⟨[c.QD,.bool false]⟩))) a1.tmps:=by
  have h1:Ev.TR ρ n tL a1.tmps:=by rw [←ha1];exact ht.sW f28 _
  exact h1.know hc.l28 (v:=.tuple #[c.QD,.bool false]) (by rw [←ha1];exact Ev.lG a (by rw [ht.size];exact n28) _) (.tuple (.cons (Ev.bF hzf) (.cons (.same rfl) .nil)))
 have h91:a1.tmps[c.d9]? = some sv:=by rw [←ha1,Ev.pq _ hc.n9.2.2.2.2];exact h9
 have hrng1:([1]:List Nat)=List.range' 1 [c.uN].length++[]:=rfl
 rw [hrng1]
 refine hK.BF hcs (l:=[c.uN]) (i:=1) (rest:=[]) (fun j hj=>by simp at hj;subst hj;rfl) e1 ht1 fun a2 v3 d1 d2 d3 d4=>?_
 have h92:a2.tmps[c.d9]? = some sv:=by rw [d4 c.d9 (fun o ho=>by rw [List.mem_singleton.1 ho];exact hc.k14)];exact h91
 refine lg hK hcs fun v4 g4=>?_
 refine dW hK hcs fun v5 g5=>?_
 refine zx hK hcs (q:=false) (Ev.dh d3 _ _ hec).dQ fun v6 g6=>?_
 refine Ku hK hcs (k':=k0) (by simp [exitTo]) fun v7 g7=>?_
 exact next a2 v7 (by rw [d1,← ha1,Ev.put_defers]) (hG.same (by rw [g7,g6,g5,g4,d2,g2,g1])) (d3.sub esub) h92
theorem Gz.rounds (hz:aN P) (hSk:kU P (· ∈ L)) (hI:∀ f args h v h',inv (.func f) args h=some (v,h')→Ev.aV P f args h v h') (hc:c.OK P L N) {ρ:Ev.aY} {h:Ev.H} {v0:World} {n nC gC kC cap hi nn:Nat} (hr:Ev.HR ρ h v0) (hC:ρ nC = .at_ gC kC) (hgC:gC<nn)
  (hu:Ev.gK ρ h.next hi) {tL:Ev.T Value} (hfree:c.free n tL=true) (hch:Ev.aG tL c.ML=some (.chan (some nC))) (he:c.Qo P L n tL=true) {ints:Value→List Value} {iT:TypeId}
  {b:Frame} (hbk:b.kind = .normal) (hbr:b.roundOf=none) {k0:List Item} {cs:List Frame} (hcs:Ev.qM cs):∀ (l:List Value),(∀ u∈l,Ev.flat u=true∧aQ u=true∧Ev.fO L [u]=true∧c.nX P L n tL u=true∧BL inv c.fL h u (ints u) iT=true∧∀ h' v,inv (.func c.fL) [u] ⟨h.t,h.next,[]⟩=some (v,h')→h'.next≤hi) →
   ∀ (p:List Value) (bs:List Lay) (sv:Value) (a:Act) (v:World),p.length+l.length<1000000→DD iT c.el ints v0 v p bs sv→Ev.TR ρ n tL a.tmps→a.tmps[c.d9]? = some sv →
   (∀ a' v' bs' sv',a'.defers=a.defers→DD iT c.el ints v0 v' (p++l) bs' sv'→Ev.TR ρ n tL a'.tmps→a'.tmps[c.d9]? = some sv'→@lU (aK P L N) P (· ∈ L) Z w00 Post nn (iZ gC cap []) (b.atR a' k0) cs v') →
   @lU (aK P L N) P (· ∈ L) Z w00 Post nn (iZ gC cap l) (b.atR a (.code c.body :: .inLoop c.body :: .inBlock c.MP::k0)) cs v
 | [],hl,p,bs,sv,a,v,hp,hG,ht,h9,next=>Gz.exit hz hSk hc hC hgC hfree hch he hbr hcs hG ht h9 fun a' v' d1 d2 d3 d4=>next a' v' bs sv d1 (by rw [List.append_nil];exact d2) d3 d4
 | u::l,hl,p,bs,sv,a,v,hp,hG,ht,h9,next=>by
  obtain ⟨q1,q2,q3,q4,q5,q6⟩:=hl u (by simp)
  have hp':p.length+(l.length+1)<1000000:=hp
  refine Gz.round hz hSk hI hc hr hC hgC hu hfree hch q1 q2 q3 q4 q5 q6 hbk hbr hcs (by omega) hG ht h9 fun a' v' bs' sv' d1 d2 d3 d4=>?_
  exact Gz.rounds hz hSk hI hc hr hC hgC hu hfree hch he hbk hbr hcs l (fun x hx=>hl x (by simp [hx])) (p++[u]) bs' sv' a' v' (by simp;omega) d2 d3 d4 fun a2 v2 bs2 sv2 r1 r2 r3 r4=>next a2 v2 bs2 sv2 (r1.trans d1) (by rw [List.append_assoc] at r2;exact r2) r3 r4
end
end Crew
end Go
end
end
section
section
namespace Go
namespace Crew
open Go.Conc Go.ConcN Go.Ren Go.Ev
def key:Value→Int
 | .int _ z=>z
 | _=>0
def KJ (ints:Value→List Value) (iT:TypeId):List Value→Nat→T Ob→T Ob
 | [],_,t=>t
 | u::us,k,t=>KJ ints iT us (k+1) (T.put T.deep t k (some (.cells (ints u) iT (some 1))))
def MS (ints:Value→List Value) (us:List Value) (k:Nat):List Value:=us.map fun u=>.slice (some ⟨k+(us.map key).idxOf (key u),0,none⟩) (ints u).length Ev.soft
def Pq (ints:Value→List Value) (iT elT:TypeId) (us:List Value) (h:H):H:=
 ⟨T.put T.deep (KJ ints iT us (h.next+1) h.t) h.next (some (.Wv (MS ints us (h.next+1)) elT)),h.next+1+us.length,List.range' h.next (us.length+1)++h.log⟩
theorem Ic {ints:Value→List Value} {iT:TypeId}:∀ (us:List Value) (k:Nat) (t:T Ob) (b:Nat),k+us.length≤top→(KJ ints iT us k t).get b=if k≤b∧b<k+us.length then (us[b - k]?).map (fun u=>.cells (ints u) iT (some 1)) else t.get b
 | [],k,t,b,_=>by rw [if_neg (by simp only [List.length_nil];omega)];rfl
 | u::us,k,t,b,ht=>by
  have ht':k+(us.length+1)≤top:=ht
  simp only [KJ]
  rw [Ic us (k+1) _ b (by omega),T.get_put _ _ _ _ _ (aO (by omega))]
  by_cases h1:k+1≤b∧b<k+1+us.length
  ·rw [if_pos h1,if_pos (by simp;omega),show b - k=(b - (k+1))+1 by omega]
   simp
  ·rw [if_neg h1]
   by_cases h2:b=k
   ·subst h2;rw [if_pos rfl,if_pos (by simp),Nat.sub_self];rfl
   ·rw [if_neg h2,if_neg (by simp;omega)]
theorem D8 {ρ:aY}:∀ {l l':List Value},l.length=l'.length→(∀ (i:Nat) (v v':Value),l[i]? = some v→l'[i]? = some v'→VR ρ v v')→eQ ρ l l'
 | [],[],_,_=>.nil
 | [],_::_,h,_=>by cases h
 | _::_,[],h,_=>by cases h
 | v::l,v'::l',h,hv=>.cons (hv 0 v v' rfl rfl) (D8 (by simpa using h) fun i a a' h1 h2=>hv (i+1) a a' (by simpa using h1) (by simpa using h2))
theorem BJ {α:Type}:∀ {l:List α},l.Nodup→∀ {i j:Nat} {x:α},l[i]? = some x→l[j]? = some x→i=j
 | [],_,i,j,x,h1,_=>by simp at h1
 | a::l,hn,0,0,x,_,_=>rfl
 | a::l,hn,0,j+1,x,h1,h2=>by
  simp at h1 h2
  subst h1
  exact absurd (List.mem_of_getElem? h2) (List.nodup_cons.1 hn).1
 | a::l,hn,i+1,0,x,h1,h2=>by
  simp at h1 h2
  subst h2
  exact absurd (List.mem_of_getElem? h1) (List.nodup_cons.1 hn).1
 | a::l,hn,i+1,j+1,x,h1,h2=>by
  simp at h1 h2
  rw [BJ (List.nodup_cons.1 hn).2 h1 h2]
theorem tY {l:List Int} (hn:l.Nodup) {i:Nat} {x:Int} (h:l[i]? = some x):l.idxOf x=i:=by
 have hm:x∈l:=List.mem_of_getElem? h
 have h1:=List.idxOf_lt_length_iff.2 hm
 have h2:l[l.idxOf x]? = some x:=by rw [List.getElem?_eq_getElem h1,List.getElem_idxOf h1]
 exact BJ hn h2 h
def bagN (ρ:aY) (us p:List Value) (bs:List Lay) (A cA k:Nat):aY:=fun b=>
 if b=k then .at_ A cA else if k+1≤b∧b<k+1+us.length then (match us[b - (k+1)]? with
  | some u=>match bs[(p.map key).idxOf (key u)]? with
   | some y=>.at_ y.1 y.2.1
   | none=>.aT
  | none=>.aT) else ρ b
theorem DD.Wv {ρ:aY} {h:H} {v0 v:World} {iT elT:TypeId} {ints:Value→List Value} {us p:List Value} {bs:List Lay} {sv:Value} (hr:HR ρ h v0) (hG:DD iT elT ints v0 v p bs sv) (hperm:p.Perm us) (hnd:(us.map key).Nodup) (hne:us≠[]) (hu:gK ρ h.next (h.next+1+us.length)) (htop:h.next+1+us.length≤top)
  (hfl:∀ u∈us,ig (ints u)=true):∃ ρ',Stp ρ h v0 ρ' (Pq ints iT elT us h) v∧HR ρ' (Pq ints iT elT us h) v∧VR ρ' (.slice (some ⟨h.next,0,none⟩) us.length Ev.soft) sv:=by
 have hlen:p.length=us.length:=hperm.length_eq
 have hpne:p≠[]:=fun e=>hne (by subst e;exact List.perm_nil.1 hperm.symm)
 have hpnd:(p.map key).Nodup:=(hperm.map key).nodup_iff.2 hnd
 rcases hG.row with ⟨e,_⟩ | ⟨A,cA,r,rfl,z1,z2,z3,z4⟩
 ·exact absurd e hpne
 have hget:∀ b,(Pq ints iT elT us h).get b=if b=h.next then some (.Wv (MS ints us (h.next+1)) elT) else if h.next+1≤b∧b<h.next+1+us.length then (us[b - (h.next+1)]?).map (fun u=>.cells (ints u) iT (some 1)) else h.get b:=fun b=>by
  show (T.put T.deep (KJ ints iT us (h.next+1) h.t) h.next _).get b=_
  rw [T.get_put _ _ _ _ _ (aO (by omega))]
  by_cases h1:b=h.next
  ·rw [if_pos h1,if_pos h1]
  ·rw [if_neg h1,if_neg h1,Ic _ _ _ _ (by omega)];rfl
 let ρ':=bagN ρ us p bs A cA h.next
 have hρ0:ρ' h.next = .at_ A cA:=if_pos rfl
 have hρo:∀ b,(b<h.next∨h.next+1+us.length≤b)→ρ' b=ρ b:=fun b hb=>by
  show (if b=h.next then _ else _)=_
  rw [if_neg (by omega),if_neg (by omega)]
 have hρk:∀ (q:Nat) (u:Value),us[q]? = some u→∃ i y,p[i]? = some u∧bs[i]? = some y∧ρ' (h.next+1+q) = .at_ y.1 y.2.1∧(p.map key).idxOf (key u)=i:=fun q u hq=>by
  have hqlt:=(List.getElem?_eq_some_iff.1 hq).1
  have hup:u∈p:=hperm.mem_iff.2 (List.mem_of_getElem? hq)
  obtain ⟨i,hi⟩:=List.getElem?_of_mem hup
  have hilt:=(List.getElem?_eq_some_iff.1 hi).1
  have hik:(p.map key)[i]? = some (key u):=by simp [hi]
  have hidx:=tY hpnd hik
  obtain ⟨y,hb⟩:∃ y,bs[i]? = some y:=⟨_,List.getElem?_eq_getElem (by rw [hG.len];exact hilt)⟩
  refine ⟨i,y,hi,hb,?_,hidx⟩
  show (if h.next+1+q=h.next then _ else if _ then _ else _)=_
  rw [if_neg (by omega),if_pos (by omega),show h.next+1+q - (h.next+1)=q by omega,hq]
  simp only [hidx,hb]
 have hname:∀ (i:Nat) (u:Value) (y:Lay),p[i]? = some u→bs[i]? = some y→ρ' (h.next+1+(us.map key).idxOf (key u)) = .at_ y.1 y.2.1:=fun i u y hi hy=>by
  have hum:u∈us:=hperm.mem_iff.1 (List.mem_of_getElem? hi)
  obtain ⟨q,hq⟩:=List.getElem?_of_mem hum
  have hqk:(us.map key)[q]? = some (key u):=by simp [hq]
  rw [tY hnd hqk]
  obtain ⟨j,y2,h1,h2,h3,h4⟩:=hρk q u hq
  have hik:(p.map key)[i]? = some (key u):=by simp [hi]
  have:=tY hpnd hik
  rw [h4] at this
  subst this
  rw [hy] at h2
  cases h2
  exact h3
 have hle:Le ρ ρ':=fun b=>by
  by_cases h1:h.next≤b∧b<h.next+1+us.length
  ·exact .inl (hu b h1.1 h1.2)
  ·exact .inr (.inl (hρo b (by omega)))
 have hblk:∀ b x k,h.next≤b→b<h.next+1+us.length→ρ' b = .at_ x k→v0.heap.size≤x∧((b=h.next∧x=A) ∨ ∃ i y,bs[i]? = some y∧x=y.1∧∃ u,us[b - (h.next+1)]? = some u∧(p.map key).idxOf (key u)=i∧p[i]? = some u∧b≠h.next):=fun b x k h1 h2 h3=>by
  by_cases h4:b=h.next
  ·subst h4
   rw [hρ0] at h3
   cases h3
   exact ⟨z3,.inl ⟨rfl,rfl⟩⟩
  ·obtain ⟨u,hq⟩:∃ u,us[b - (h.next+1)]? = some u:=⟨_,List.getElem?_eq_getElem (by omega)⟩
   obtain ⟨i,y,m1,m2,m3,m4⟩:=hρk _ u hq
   rw [show h.next+1+(b - (h.next+1))=b by omega,h3] at m3
   cases m3
   exact ⟨(hG.rows i u y m1 m2).2.2.2,.inr ⟨i,y,m2,rfl,u,hq,m4,m1,h4⟩⟩
 refine ⟨ρ',⟨hle,by show h.next≤h.next+1+us.length;omega,fun b h1 h2=>?_,hG.size,List.range' h.next (us.length+1),rfl,fun x o hx _=>?_,fun b x k hb=>?_,fun b hb=>?_,fun b hb=>?_,fun b hb hn=>?_⟩,⟨hG.dH,fun b o hb=>?_,fun b d x k l hb hd hx hy=>?_⟩,?_⟩
 ·rw [hρo b (by rcases h2 with h2 | h2;exact .inl h2;exact .inr h2)];exact h1
 ·rw [hG.old x (Array.getElem?_eq_some_iff.1 hx).1];exact hx
 ·by_cases h1:h.next≤b∧b<h.next+1+us.length
  ·exact .inr ⟨hu b h1.1 h1.2,.inl (hblk b x k h1.1 h1.2 hb).1⟩
  ·rw [hρo b (by omega)] at hb;exact .inl hb
 ·obtain ⟨h1,h2⟩:=List.mem_range'_1.1 hb
  exact .inr ⟨h1,by show b<h.next+1+us.length;omega⟩
 ·have h1:¬ (h.next≤b∧b<h.next+(us.length+1)):=fun h1=>hb (List.mem_range'_1.2 h1)
  rw [hget,if_neg (by omega),if_neg (by omega)]
 ·have h1:¬ (h.next≤b∧b<h.next+(us.length+1)):=fun h1=>hb (List.mem_range'_1.2 h1)
  exact hρo b (by omega)
 ·rw [hget] at hb
  split at hb
  ·rename_i e
   cases hb
   subst e
   refine ⟨A,cA,_,hρ0,z1,p.map (fun u=>.slice (some ⟨h.next+1+(us.map key).idxOf (key u),0,none⟩) (ints u).length Ev.soft),_,r,(hperm.map _).symm,rfl,?_⟩
   refine D8 (by simp [hG.len]) fun i w w' h1 h2=>?_
   rw [List.getElem?_map] at h1
   cases hp:p[i]? with
   | none=>rw [hp] at h1;cases h1
   | some u=>
    rw [hp] at h1
    cases h1
    have hilt:=(List.getElem?_eq_some_iff.1 hp).1
    obtain ⟨y,hbi⟩:∃ y,bs[i]? = some y:=⟨_,List.getElem?_eq_getElem (by rw [hG.len];exact hilt)⟩
    rw [List.getElem?_zipWith,hp,hbi] at h2
    cases h2
    have hn:=hname i u _ hp hbi
    obtain ⟨_,hcl,_⟩:=hG.rows i u _ hp hbi
    refine .slice ⟨?_,rfl,rfl,rfl⟩ (.inr ⟨Nat.le_refl _,?_,fun x k hx=>?_⟩)
    ·show BR ρ' _ _
     unfold BR;rw [hn]
    ·rw [←hcl];simp
    ·have hx':ρ' (h.next+1+(us.map key).idxOf (key u)) = .at_ x k:=hx
     rw [hn] at hx'
     cases hx';rfl
  ·split at hb
   ·rename_i h1 h2
    obtain ⟨u,hq⟩:∃ u,us[b - (h.next+1)]? = some u:=⟨_,List.getElem?_eq_getElem (by omega)⟩
    rw [hq] at hb
    cases hb
    obtain ⟨i,y,m1,m2,m3,m4⟩:=hρk _ u hq
    rw [show h.next+1+(b - (h.next+1))=b by omega] at m3
    obtain ⟨k1,k2,k3,_⟩:=hG.rows i u y m1 m2
    refine ⟨y.1,y.2.1,_,m3,k1,ints u,y.2.2,rfl,mX (hfl u (List.mem_of_getElem? hq)),(fun h=>by cases h),fun z hz=>?_⟩
    cases hz
    exact ⟨by rw [k2,Nat.mul_one],k3,Nat.one_pos⟩
   ·rename_i h1 h2
    obtain ⟨x,k,o',m1,m2,m3⟩:=hr.ob b o hb
    have hbn:b<h.next∨h.next+1+us.length≤b:=by omega
    exact ⟨x,k,o',by rw [hρo b hbn];exact m1,by rw [hG.old x (Array.getElem?_eq_some_iff.1 m2).1];exact m2,m3.mono hle⟩
 ·
  have low:∀ b x k,((Pq ints iT elT us h).get b).isSome=true→¬ (h.next≤b∧b<h.next+1+us.length)→ρ' b = .at_ x k→x<v0.heap.size∧(h.get b).isSome=true∧ρ b = .at_ x k:=fun b x k hs hn hx=>by
   rw [hget,if_neg (by omega),if_neg (by omega)] at hs
   rw [hρo b (by omega)] at hx
   obtain ⟨o,ho⟩:=Option.isSome_iff_exists.1 hs
   exact ⟨hr.lt ho hx,hs,hx⟩
  by_cases hbn:h.next≤b∧b<h.next+1+us.length<;>by_cases hdn:h.next≤d∧d<h.next+1+us.length
  ·obtain ⟨_,h1⟩:=hblk b x k hbn.1 hbn.2 hx
   obtain ⟨_,h2⟩:=hblk d x l hdn.1 hdn.2 hy
   have notA:∀ i (y:Lay),bs[i]? = some y→y.1≠A:=fun i y hi e=>z4 (by rw [←e];exact List.mem_map.2 ⟨y,List.mem_of_getElem? hi,rfl⟩)
   rcases h1 with ⟨rfl,e1⟩ | ⟨i,y,m1,m2,u,m3,m4,m5,m6⟩<;>rcases h2 with ⟨rfl,e2⟩ | ⟨j,y',n1,n2,u',n3,n4,n5,n6⟩
   ·rfl
   ·exact absurd (n2.symm.trans e1) (notA j y' n1)
   ·exact absurd (m2.symm.trans e2) (notA i y m1)
   ·have hij:i=j:=by
     have hi:(bs.map (·.1))[i]? = some x:=by simp [m1,m2]
     have hj:(bs.map (·.1))[j]? = some x:=by simp [n1,n2]
     exact BJ hG.nd hi hj
    subst hij
    rw [m5] at n5
    cases n5
    have h1:(us.map key)[b - (h.next+1)]? = some (key u):=by simp [m3]
    have h2:(us.map key)[d - (h.next+1)]? = some (key u):=by simp [n3]
    have h3:=tY hnd h1
    rw [tY hnd h2] at h3
    omega
  ·have h1:=(hblk b x k hbn.1 hbn.2 hx).1
   have h2:=(low d x l hd hdn hy).1
   omega
  ·have h1:=(hblk d x l hdn.1 hdn.2 hy).1
   have h2:=(low b x k hb hbn hx).1
   omega
  ·obtain ⟨_,h1,h2⟩:=low b x k hb hbn hx
   obtain ⟨_,h3,h4⟩:=low d x l hd hdn hy
   exact hr.inj b d x k l h1 h3 h2 h4
 ·rw [←hlen]
  refine .slice ⟨?_,rfl,rfl,rfl⟩ (.inr ⟨Nat.le_refl _,?_,fun x k hx=>?_⟩)
  ·show BR ρ' h.next A
   unfold BR;rw [hρ0]
  ·rw [←z2];simp [hG.len]
  ·have hx':ρ' h.next = .at_ x k:=hx
   rw [hρ0] at hx'
   cases hx';rfl
end Crew
end Go
end
end
section
section
namespace Go
namespace Crew
open Go.Conc Go.ConcN Go.Ren Go.Conc.Lib Go.ConcR.Gen Go.ConcN.Gen
structure GN where
 fn:Func
 cw:DF
 rc:Gz
 c0:Code
 c1:Code
 i2:Nat
 i3:Nat
 i11:Nat
 Ws:Oper
 Tn:Oper
 Xy:Oper
 Xx:Oper
 o3:Oper
 c4:Code
 Js:Oper
 Fa:Oper
 c12:Code
 c13:Code
 c17:Code
 QG:Operand
 tel:TypeInfo
 d17:Nat
 d7:Nat
 zg:Value
 d25:Nat
 d26:Nat
 d27:Nat
 VT:Array TypeId
 iT:TypeId
def GN.body (c:GN):Code:=
 .seq c.c0 (.seq c.c1 (.seq (.region c.i2 #[c.Ws,c.Tn,c.Xy,c.Xx] false) (.seq (.region c.i3 #[c.o3] false) (.seq (.seq c.c4 (.block c.cw.ry (.loop c.cw.loopBody))) (.seq (.region c.cw.i10 #[c.cw.Hf] false)
  (.seq (.region c.i11 #[c.Js,c.Fa] false) (.seq c.c12 (.seq (.seq c.c13 (.block c.rc.MP (.loop c.rc.body))) c.c17))))))))
structure GN.OK (P:Program) (L N:List FuncId) (Lk:WgLink) (c:GN) (f:FuncId):Prop where
 ff:P.funcs[f]? = some c.fn
 fb:c.fn.body=some c.body
 fname:(c.fn.name == "runtime.NumGoroutine")=false
 fcl:jF P L c.body=true
 cw:c.cw.OK P L N Lk
 rc:c.rc.OK P L N
 op2c:c.Tn.op = .makeChan c.rc.TI c.QG
 g2c:c.Tn.guard=none
 d2c:c.Tn.dst=some c.d17
 tel:P.info? c.rc.MB=some c.tel
 telb:c.tel.bytes<1000000
 Y0:jR P (L++N) c.QG=true
 op3:c.o3.op = .alloc Lk.tWg
 g3:c.o3.guard=none
 d3:c.o3.dst=some c.d7
 zg:Ev.zeroOf P Lk.tWg=some c.zg
 zgc:c.zg.cells=#[.int .u64 0,.int .u32 0]
 d10:c.cw.Hf.dst=some c.d25
 op11c:c.Fa.op = .call { callee:=.builtin .close,args:=#[.tmp c.d26],argTypes:=c.VT }
 g11c:c.Fa.guard=none
 d11c:c.Fa.dst=none
 ML:c.rc.ML = .tmp c.d27
 l17:c.d17<Ev.top
 l7:c.d7<Ev.top
 l25:c.d25<Ev.top
 l9:c.rc.d9<Ev.top
 l27:c.d27<Ev.top
section
variable (P:Program) (L N:List FuncId) (inv:Ev.Iv) (c:GN)
def XA:FuncId→List Value→Ev.H→Option (Value × Ev.H):=fun _ _ _=>none
def GN.preO (args:List Value) (h:Ev.H):Option (Nat × Nat × Nat × Ev.St):=
 match Ev.qI 0 args .nil with
 | some ta=>match Ev.gy P L N XA inv (args.length+(c.fn.ntmps - args.length)) c.c0 ⟨ta,h,[]⟩ with
  | some (.normal,s1)=>match Ev.gy P L N XA inv (args.length+(c.fn.ntmps - args.length)) c.c1 s1 with
   | some (.normal,s2)=>match Ev.jU P L (args.length+(c.fn.ntmps - args.length)) [c.Ws,c.Tn,c.Xy,c.Xx] [c.Ws] s2.t with
    | some t3=>match Ev.aG t3 c.QG with
     | some (.int .i64 (.ofNat m))=>match Nat.blt m 1000000,Ev.jm P (Ev.wX N XA inv) (Ev.Wu P L N) (args.length+(c.fn.ntmps - args.length)) [c.Ws,c.Tn,c.Xy,c.Xx] [c.Xy,c.Xx] (Ev.T.put Ev.T.deep t3 c.d17 (some (.chan (some s2.h.next)))) ⟨s2.h.t,s2.h.next+1,s2.h.log⟩ with
      | true,some (t5,h5)=>match Ev.gy P L N XA inv (args.length+(c.fn.ntmps - args.length)) c.c4 ⟨Ev.T.put Ev.T.deep t5 c.d7 (some (.pointer (some ⟨h5.next,0,none⟩))),⟨h5.t,h5.next+1,h5.log⟩,[]⟩ with
       | some (.normal,s7)=>some (m,s2.h.next,h5.next,s7)
       | _=>none
      | _,_=>none
     | _=>none
    | none=>none
   | _=>none
  | _=>none
 | none=>none
def GN.midO (n nC:Nat) (tE:Ev.T Value) (h:Ev.H):Option Ev.St:=
 match Ev.jm P (Ev.wX N XA inv) (Ev.Wu P L N) n [c.Js,c.Fa] [c.Js] (Ev.strike tE c.d25) h with
 | some (t9,h1)=>match Ev.aG t9 (.tmp c.d26) with
  | some (.chan (some k))=>match Nat.beq k nC,Ev.gy P L N XA inv n c.c12 ⟨t9,h1,[]⟩ with
   | true,some (.normal,s10)=>match Ev.gy P L N XA inv n c.c13 s10 with
    | some (.normal,s11)=>some s11
    | _=>none
   | _,_=>none
  | _=>none
 | none=>none
def intsOf (inv:Ev.Iv) (fL:FuncId) (h:Ev.H) (u:Value):List Value:=
 match inv (.func fL) [u] ⟨h.t,h.next,[]⟩ with
 | some (.slice (some a) _ _,h')=>match h'.get a.block with
  | some (.cells c _ _)=>c
  | _=>[]
 | _=>[]
def U0:Value→Bool
 | .int _ _=>true
 | _=>false
def nodupB:List Int→Bool
 | []=>true
 | x::l=>(l.all fun y=>!decide (y=x))&&nodupB l
def GN.lT (n hi nC:Nat) (h:Ev.H) (u:Value):Bool:=
 U0 u&&Ev.fO L [u]&&c.rc.nX P L n (Ev.T.put Ev.T.deep .nil c.d27 (some (.chan (some nC)))) u&&BL inv c.rc.fL h u (intsOf inv c.rc.fL h u) c.iT&&(match inv (.func c.rc.fL) [u] ⟨h.t,h.next,[]⟩ with
  | some (_,h')=>Nat.ble h'.next hi
  | none=>true)&&Ev.ig (intsOf inv c.rc.fL h u)
def GN.atO (n hi nC m:Nat) (ps:List (Option Value)) (s7 s11:Ev.St):Bool:=
 Nat.beq ps.length m&&Nat.ble (s7.h.next+1) hi&&(match ps.filterMap id with | []=>false | _=>true)&&nodupB ((ps.filterMap id).map key)&&Ev.KA (Ev.T.put Ev.T.deep .nil c.d27 (some (.chan (some nC)))) s11.t&&(match s11.t.get c.rc.d9 with | some (.slice none 0 0)=>true | _=>false) &&
  c.rc.free n (Ev.T.put Ev.T.deep .nil c.d27 (some (.chan (some nC))))&&c.rc.Qo P L n (Ev.T.put Ev.T.deep .nil c.d27 (some (.chan (some nC))))&&((ps.filterMap id).all fun u=>c.lT P L inv n hi nC s11.h u)&&Nat.ble (s11.h.next+1+(ps.filterMap id).length) hi&&Nat.ble (s11.h.next+1+(ps.filterMap id).length) Ev.top&&Nat.blt c.cw.d8 n&&Nat.blt c.cw.d23 n&&Nat.blt c.d17 n&&Nat.blt c.d7 n&&Nat.blt c.rc.d9 n&&(ps.filterMap id).length.blt 1000000
def GN.aG (hi:Nat) (args:List Value) (h:Ev.H):Option (Value × Ev.H):=
 match c.preO P L N inv args h with
 | some (m,nC,nW,s7)=>match c.cw.xI P L N inv (args.length+(c.fn.ntmps - args.length)) nW nC hi ⟨Ev.zG s7.h.t,s7.h.next,[]⟩ m s7.t with
  | some (ps,tE)=>match c.midO P L N inv (args.length+(c.fn.ntmps - args.length)) nC tE s7.h with
   | some s11=>match c.atO P L inv (args.length+(c.fn.ntmps - args.length)) hi nC m ps s7 s11 with
    | true=>match Ev.gy P L N XA inv (args.length+(c.fn.ntmps - args.length)) c.c17 ⟨Ev.T.put Ev.T.deep (Ev.T.put Ev.T.deep .nil c.d27 (some (.chan (some nC)))) c.rc.d9 (some (.slice (some ⟨s11.h.next,0,none⟩) (ps.filterMap id).length Ev.soft)),Pq (intsOf inv c.rc.fL s11.h) c.iT c.rc.el (ps.filterMap id) s11.h,[]⟩ with
     | some x=>match Ev.qB P c.fn x with
      | some (v,h')=>match Nat.ble h'.next hi with
       | true=>some (v,⟨h'.t,hi,h'.log⟩)
       | false=>none
      | none=>none
     | none=>none
    | false=>none
   | none=>none
  | none=>none
 | none=>none
end
theorem reserve {ρ:Ev.aY} {h:Ev.H} {w w':World} {o:Obj} (hr:Ev.HR ρ h w) (hu:ρ h.next = .aT) (hw:w'.heap=w.heap.push o) (ho:Ev.RJ o=false) :
  Ev.Stp ρ h w (Ev.upd ρ h.next (.at_ w.heap.size 0)) ⟨h.t,h.next+1,h.log⟩ w'∧Ev.HR (Ev.upd ρ h.next (.at_ w.heap.size 0)) ⟨h.t,h.next+1,h.log⟩ w':=by
 have hle:Ev.Le ρ (Ev.upd ρ h.next (.at_ w.heap.size 0)):=Ev.mP hu _
 have hkn:∀ b o,h.get b=some o→b≠h.next:=fun b o hb e=>by
  subst e
  obtain ⟨x,k,o',h1,_⟩:=hr.ob _ o hb
  rw [hu] at h1;cases h1
 have hkeep:∀ (x:Nat) (o:Obj),w.heap[x]? = some o→w'.heap[x]? = some o:=fun x o hx=>by
  have:=(Array.getElem?_eq_some_iff.1 hx).1
  rw [hw,Array.getElem?_push,if_neg (by omega)];exact hx
 refine ⟨⟨hle,Nat.le_succ _,fun b hb hx=>?_,by rw [hw];simp,[],rfl,fun x o hx _=>hkeep x o hx,fun b x k hb=>?_,fun _ h=>by simp at h,fun _ _=>rfl,fun b _ hb=>?_⟩,hr.dH.push hw ho,fun b o hb=>?_,fun b c x k l hb hc hx hy=>?_⟩
 ·rw [Ev.aJ]
  ·exact hb
  ·rintro rfl
   rcases hx with hx | hx
   ·exact absurd hx (Nat.lt_irrefl _)
   ·exact absurd hx (Nat.not_succ_le_self _)
 ·by_cases e:b=h.next
  ·subst e
   rw [Ev.upd_same] at hb
   cases hb
   exact .inr ⟨hu,.inl (Nat.le_refl _)⟩
  ·rw [Ev.aJ _ _ e] at hb;exact .inl hb
 ·rw [Ev.aJ]
  rintro rfl
  exact hb hu
 ·obtain ⟨x,k,o',h1,h2,h3⟩:=hr.ob b o hb
  exact ⟨x,k,o',by rw [Ev.aJ _ _ (hkn b o hb)];exact h1,hkeep _ _ h2,h3.mono hle⟩
 ·obtain ⟨o1,h1⟩:=Option.isSome_iff_exists.1 hb
  obtain ⟨o2,h2⟩:=Option.isSome_iff_exists.1 hc
  rw [Ev.aJ _ _ (hkn b o1 h1)] at hx
  rw [Ev.aJ _ _ (hkn c o2 h2)] at hy
  exact hr.inj b c x k l hb hc hx hy
theorem zA {ρ ρ':Ev.aY} {h h':Ev.H} {w w':World} (s:Ev.Stp ρ h w ρ' h' w') {b:Nat} (h1:h.get b=none) (h2:b<h.next):h'.get b=none:=by
 obtain ⟨l,_,_,_,p1,p2,_⟩:=s.log
 by_cases hm:b∈l
 ·rcases p1 b hm with h4 | h4
  ·rw [h1] at h4;cases h4
  ·omega
 ·rw [p2 b hm];exact h1
theorem tq:∀ {l:List Int},nodupB l=true→l.Nodup
 | [],_=>List.nodup_nil
 | x::l,h=>by
  simp only [nodupB,Bool.and_eq_true] at h
  refine List.nodup_cons.2 ⟨fun hx=>?_,tq h.2⟩
  have:=List.all_eq_true.1 h.1 x hx
  simp at this
end Crew
end Go
end
end
section
section
namespace Go
namespace Crew
open Go.Conc Go.ConcN Go.Ren Go.Conc.Lib Go.ConcR.Gen Go.ConcN.Gen
section
variable {P:Program} {L N:List FuncId} {Lk:WgLink} {c:GN} {inv:Ev.Iv} {Z:Nat→Prop} {w00:World} {Post:Value→World→Prop}
theorem FI {K:Frame→List Frame→World→Prop} (hK:Ev.kH P L N K) (hI:∀ f args h v h',inv (.func f) args h=some (v,h')→Ev.aV P f args h v h'):Ev.zn P L N K XA inv:=⟨hK,hI,fun _ _ _ _ _ _ e=>by cases e⟩
theorem PQ {t:Ev.T Value} {n d:Nat} {v:Value} (h1:d<n) (h2:d<Ev.top):Ev.jl t n (some d) v=some (Ev.T.put Ev.T.deep t d (some v)):=by
 unfold Ev.jl
 have e1:Nat.blt d n=true:=by rw [Nat.blt_eq];exact h1
 have e2:Nat.blt d Ev.top=true:=by rw [Nat.blt_eq];exact h2
 simp only [e1,e2]
theorem JE {K:Frame→List Frame→World→Prop} {invN:FuncId→List Value→Ev.H→Option (Value × Ev.H)} (hI:Ev.zn P L N K invN inv) (qP:∀ f∈L,f∉N) {n:Nat} {ops:Array Oper} {rest:List Nat} {b:Frame} {k:List Item} {cs:List Frame} (hbk:b.kind = .normal) (hbr:b.roundOf=none) (hcs:Ev.qM cs) :
  ∀ {l:List Oper} {i:Nat} {t t':Ev.T Value} {h h':Ev.H},(∀ j,j<l.length→ops[i+j]? = l[j]?)→Ev.jm P (Ev.wX N invN inv) (Ev.Wu P L N) n ops.toList l t h=some (t',h') →
  ∀ {ρ:Ev.aY} {a:Act} {w:World},Ev.TR ρ n t a.tmps→Ev.HR ρ h w→Ev.gK ρ h.next h'.next→(∀ ρ' a' w',a'.defers=a.defers→Ev.Stp ρ h w ρ' h' w'→Ev.HR ρ' h' w'→Ev.TR ρ' n t' a'.tmps→K (b.atR a' (.inRegion ops rest::k)) cs w')→K (b.atR a (.inRegion ops (List.range' i l.length++rest)::k)) cs w
 | [],i,t,t',h,h',hl,e,ρ,a,w,ht,hr,hu,hk=>by
  cases e
  exact hk ρ a w rfl (.refl ρ h _ _ rfl) hr ht
 | o::l,i,t,t',h,h',hl,e,ρ,a,w,ht,hr,hu,hk=>by
  have ho:ops[i]? = some o:=by simpa using hl 0 (by simp)
  have hl':∀ j,j<l.length→ops[i+1+j]? = l[j]?:=fun j hj=>by
   have:=hl (j+1) (by simp;omega)
   rw [show i+(j+1)=i+1+j by omega] at this
   simpa using this
  have hrange:List.range' i (o::l).length++rest=i::(List.range' (i+1) l.length++rest):=by simp [List.range'_succ]
  rw [hrange]
  simp only [Ev.jm] at e
  split at e
  ·rename_i hw
   have hwant:=Ev.dP ht hw
   split at e
   case h_2=>cases e
   rename_i hck
   split at e
   ·rename_i v h1 e1
    split at e
    ·rename_i t1 e2
     have n1:=Ev.qo hI.next e1
     have n2:=Ev.dX hI.next e
     refine hI.one e1 hck qP ho hwant ht hr (hu.sub (Nat.le_refl _) n2) hcs hbk hbr fun ρ1 v' w1 s2 s3 s4=>?_
     have ht1:Ev.TR ρ1 n t1 (a.put o.dst v').tmps:=(ht.mono s2.le).put e2 s4
     exact JE hI qP hbk hbr hcs hl' e ht1 s3 ((hu.sub n1 (Nat.le_refl _)).step s2 (Nat.le_refl _)) fun ρ2 a2 w2 d1 d2 d3 d4=>hk ρ2 a2 w2 (by rw [d1,Ev.put_defers]) (s2.trans d2) d3 d4
    ·cases e
   ·cases e
  ·rename_i hw
   have hwant:=Ev.dP ht hw
   split at e
   case h_2=>cases e
   rename_i hsk
   split at e
   ·rename_i t1 e2
    have ht1:Ev.TR ρ n t1 (a.put o.dst undef).tmps:=ht.put e2 Ev.ja
    refine hI.ups.skip ho hsk hwant hcs fun tp=>?_
    exact JE hI qP hbk hbr hcs hl' e ht1 (hr.heap rfl) hu fun ρ2 a2 w2 d1 d2 d3 d4=>hk ρ2 a2 w2 (by rw [d1,Ev.put_defers]) (d2.heap rfl) d3 d4
   ·cases e
  ·cases e
theorem TL {ρ ρ':Ev.aY} {h h':Ev.H} {w w':World} (s:Ev.Stp ρ h w ρ' h' w') {hi:Nat} (hle:h'.next≤hi):Ev.Stp ρ h w ρ' ⟨h'.t,hi,h'.log⟩ w':=by
 obtain ⟨l,l1,l2,l3,l4,l5,l6⟩:=s.log
 exact ⟨s.le,Nat.le_trans s.next hle,fun b h1 h2=>s.born b h1 (h2.imp id fun h3=>Nat.le_trans hle h3),s.size,l,l1,l2,l3,fun b hb=>(l4 b hb).imp id fun h3=>⟨h3.1,Nat.lt_of_lt_of_le h3.2 hle⟩,l5,l6⟩
set_option maxHeartbeats 4000000 in
theorem GN.funcK (hz:aN P) (hSk:kU P (· ∈ L)) (qP:∀ f∈L,f∉N) (H:WgLib P Lk) (hN:Ev.lQ inv) (hI:∀ f args h v h',inv (.func f) args h=some (v,h')→Ev.aV P f args h v h') {f:FuncId} (hc:c.OK P L N Lk f)
  {hi:Nat} {args:List Value} {h h':Ev.H} {v:Value} (e:c.aG P L N inv hi args h=some (v,h')):Ev.Be P L N (@KM (aK P L N) P (· ∈ L) Z w00 Post) f args h v h':=by
 unfold GN.aG at e
 split at e
 case h_2=>cases e
 rename_i m nC nW s7 epre
 split at e
 case h_2=>cases e
 rename_i ps tE erounds
 split at e
 case h_2=>cases e
 rename_i s11 emid
 split at e
 case h_2=>cases e
 rename_i eat
 split at e
 case h_2=>cases e
 rename_i x17 e17
 split at e
 case h_2=>cases e
 rename_i v17 h17 eleave
 split at e
 case h_2=>cases e
 rename_i ehi
 have ehi:=Nat.le_of_ble_eq_true ehi
 obtain ⟨rfl,rfl⟩:=Prod.mk.inj (Option.some.inj e)
 generalize hn:args.length+(c.fn.ntmps - args.length)=n at *
 unfold GN.preO at epre
 rw [hn] at epre
 split at epre
 case h_2=>cases epre
 rename_i ta eta
 split at epre
 case h_2=>cases epre
 rename_i s1 ec0
 split at epre
 case h_2=>cases epre
 rename_i s2 ec1
 split at epre
 case h_2=>cases epre
 rename_i t3 e2m
 split at epre
 case h_2=>cases epre
 rename_i m' ecap
 split at epre
 case h_2=>cases epre
 rename_i t5 h5 em e2as
 split at epre
 case h_2=>cases epre
 rename_i s7' ec4
 obtain ⟨rfl,rfl,rfl,rfl⟩:m'=m∧s2.h.next=nC∧h5.next=nW∧s7'=s7:=by
  have:=Option.some.inj epre
  simp only [Prod.mk.injEq] at this
  exact this
 rw [Nat.blt_eq] at em
 unfold GN.midO at emid
 split at emid
 case h_2=>cases emid
 rename_i t9 h8 eload
 split at emid
 case h_2=>cases emid
 rename_i kch ekch
 split at emid
 case h_2=>cases emid
 rename_i s10 hkch ec12
 split at emid
 case h_2=>cases emid
 rename_i s11' ec13
 obtain rfl:=Option.some.inj emid
 obtain rfl:=Nat.eq_of_beq_eq_true hkch
 unfold GN.atO at eat
 simp only [Bool.and_eq_true,Nat.blt_eq] at eat
 obtain ⟨⟨⟨⟨⟨⟨⟨⟨⟨⟨⟨⟨⟨⟨⟨⟨a1,a2⟩,a3⟩,a4⟩,a5⟩,a6⟩,a7⟩,a8⟩,a9⟩,a10⟩,a11⟩,a12⟩,a13⟩,a14⟩,a15⟩,a16⟩,a17⟩:=eat
 have hps:ps.length=m':=Nat.eq_of_beq_eq_true a1
 have a2:=Nat.le_of_ble_eq_true a2
 have a10:=Nat.le_of_ble_eq_true a10
 have a11:=Nat.le_of_ble_eq_true a11
 have hKM:Ev.kH P L N (@KM (aK P L N) P (· ∈ L) Z w00 Post):=yU hz hSk
 have hIM:=FI (inv:=inv) hKM hI
 obtain ⟨n0,r0⟩:=Ev.jE hIM qP c.c0 _ _ ec0
 obtain ⟨n1,r1⟩:=Ev.jE hIM qP c.c1 _ _ ec1
 have n2:=Ev.dX hIM.next e2as
 obtain ⟨n4,_⟩:=Ev.jE hIM qP c.c4 _ _ ec4
 obtain ⟨n12,_⟩:=Ev.jE hIM qP c.c12 _ _ ec12
 obtain ⟨n13,_⟩:=Ev.jE hIM qP c.c13 _ _ ec13
 obtain ⟨n17,r17⟩:=Ev.jE hIM qP c.c17 _ _ e17
 have n8:s7'.h.next≤h8.next:=Ev.dX hIM.next eload
 simp only at n0 n1 n2 n4 n12 n13
 have n17:s11'.h.next+1+(ps.filterMap id).length≤x17.2.h.next:=n17
 have hne:¬ ∃ id,x17.1 = .exit id:=fun ⟨id,hid⟩=>by
  unfold Ev.qB at eleave
  rw [hid] at eleave
  cases eleave
 have hres:Ev.oD P x17.2.t x17.2.h c.fn.results.toList=some v17∧h17=x17.2.h:=by
  unfold Ev.qB at eleave
  split at eleave
  ·cases eleave
  ·split at eleave
   ·rename_i u hu';cases eleave;exact ⟨hu',rfl⟩
   ·cases eleave
 obtain ⟨hres,rfl⟩:=hres
 have hOKc:=hc
 refine ⟨by show h.next≤hi;omega,c.fn,c.body,hc.ff,hc.fb,hc.fname,hc.fcl,fun ρ args' w cf cs hcs hcm ha hr hu hk=>?_⟩
 have hu:Ev.gK ρ h.next hi:=hu
 let b:Frame:={ (default:Frame) with fn:=f,kind:=.normal }
 have hbk:b.kind = .normal:=rfl
 have hbr:b.roundOf=none:=rfl
 have hl:=ha.length
 have henter:Frame.enter P f ⟨args'⟩ .normal=b.atR { tmps:=(⟨args'⟩:Array Value)++Array.replicate (c.fn.ntmps - args.length) undef,defers:=[] } [.code c.body]:=by
  simp [Frame.enter,Frame.atR,hc.ff,hc.fb,b,hl]
  rfl
 rw [henter]
 have hcs':Ev.qM (cf::cs):=hcs.cons cf
 have leave:∀ ρ' a' w' k0,a'.defers=[]→Ev.Stp ρ h w ρ' x17.2.h w'→Ev.HR ρ' x17.2.h w'→Ev.TR ρ' n x17.2.t a'.tmps→@KM (aK P L N) P (· ∈ L) Z w00 Post { b.atR a' k0 with mode:=.returning } (cf::cs) w':=fun ρ' a' w' k0 d1 d2 d3 d4=>by
  have hlv:∀ tp,∃ v',({ b.atR a' k0 with mode:=.returning }:Frame).leaving P (wt w' tp) (.returned v')∧Ev.VR ρ' v17 v':=fun tp=>by
   obtain ⟨v',r1,r2⟩:=Ev.sH (fn:=c.fn) d4 (d3.heap (w':=wt w' tp) rfl) hres
   exact ⟨v',⟨rfl,d1,rfl,c.fn,hc.ff,r1⟩,r2⟩
  obtain ⟨v0,hl0,_⟩:=hlv w'.tape
  refine hKM.own (@Fit.leaving P (aK P L N) _ _ _ _ hl0) fun tp=>?_
  obtain ⟨v',q1,q2⟩:=hlv tp
  obtain ⟨es,hst⟩:=Ev.LP (c:=cf) (cs:=cs) q1
  exact ⟨_,_,wt w' tp,es,hst,by rw [Ev.CY];exact hcm,hcs,fun hc=>Ren.aX hc rfl,.of rfl,hk ρ' v' (wt w' tp) (TL (d2.tape tp) ehi) ⟨(d3.heap (w':=wt w' tp) rfl).dH,(d3.heap (w':=wt w' tp) rfl).ob,d3.inj⟩ q2⟩
 have ht0:Ev.TR ρ n ta ((⟨args'⟩:Array Value)++Array.replicate (c.fn.ntmps - args.length) undef):=by rw [←hn];exact Ev.ve eta ha
 generalize hA0:({ tmps:=(⟨args'⟩:Array Value)++Array.replicate (c.fn.ntmps - args.length) undef,defers:=[] }:Act)=a0
 have ht0:Ev.TR ρ n ta a0.tmps:=by rw [←hA0];exact ht0
 have hd0:a0.defers=[]:=by rw [←hA0]
 unfold GN.body
 refine dW hKM hcs' fun w1 g1=>?_
 refine r0 ρ b a0 _ (cf::cs) w1 hbk hbr hcs' ht0 (hr.heap g1) (hu.sub (Nat.le_refl _) (by show s1.h.next≤hi;omega)) fun ρ1 b1 w2 d1 st1 hr1 ht1=>?_
 have st1:Ev.Stp ρ h w ρ1 s1.h w2:=st1.heap g1
 refine dW hKM hcs' fun w3 g3=>?_
 refine r1 ρ1 b b1 _ (cf::cs) w3 hbk hbr hcs' ht1 (hr1.heap g3) (((hu.sub n0 (Nat.le_refl _)).step st1 (Nat.le_refl _)).sub (Nat.le_refl _) (by show s2.h.next≤hi;omega)) fun ρ2 b2 w4 d2 st2 hr2 ht2=>?_
 have st2:Ev.Stp ρ h w ρ2 s2.h w4:=st1.trans (st2.heap g3)
 have hu2:Ev.gK ρ2 s2.h.next hi:=(hu.sub (by omega) (Nat.le_refl _)).step st2 (Nat.le_refl _)
 refine dW hKM hcs' fun w5 g5=>?_
 refine gp hKM hcs' fun w6 g6=>?_
 have hrng:List.range (#[c.Ws,c.Tn,c.Xy,c.Xx]:Array Oper).size=List.range' 0 [c.Ws].length++[1,2,3]:=rfl
 rw [hrng]
 refine hKM.BF hcs' (l:=[c.Ws]) (i:=0) (rest:=[1,2,3]) (fun j hj=>by simp at hj;subst hj;rfl) e2m ht2 fun b3 w7 d3 g7 ht3 _=>?_
 have e7:w7.heap=w4.heap:=by rw [g7,g6,g5]
 have hw2c:Region.wanted c.Tn (yielded #[c.Ws,c.Tn,c.Xy,c.Xx] b3.tmps)=true:=by unfold Region.wanted;rw [hc.g2c]
 have hcapv:b3.eval c.QG = .int .i64 m':=(Ev.dh ht3 _ _ ecap).flat rfl
 refine @lU.ZE (aK P L N) P (· ∈ L) Z w00 Post b b3 _ (cf::cs) w7 #[c.Ws,c.Tn,c.Xy,c.Xx] 1 [2,3] c.Tn hbk hbr rfl hw2c c.rc.TI c.rc.MB c.QG c.rc.dch c.tel m' hc.op2c hc.rc.TI hc.tel (Ev.sZ hc.Y0) hcapv em hc.telb ?_
 rw [hc.d2c]
 generalize hgC:w7.heap.size=gC
 generalize hw8:({ w7 with heap:=w7.heap.push (.chan m' #[] false 0 0 false) }:World)=w8
 have hw8':w8.heap=w7.heap.push (.chan m' #[] false 0 0 false):=by rw [←hw8]
 have hup2:ρ2 s2.h.next = .aT:=hu2 _ (Nat.le_refl _) (by omega)
 obtain ⟨st3a,hr3⟩:=reserve (w':=w8) (hr2.heap e7) hup2 hw8' rfl
 rw [hgC] at st3a hr3
 generalize hρ3:Ev.upd ρ2 s2.h.next (.at_ gC 0)=ρ3 at st3a hr3
 have st3:Ev.Stp ρ h w ρ3 ⟨s2.h.t,s2.h.next+1,s2.h.log⟩ w8:=st2.trans (st3a.heap e7)
 have hu3:Ev.gK ρ3 (s2.h.next+1) hi:=(hu2.sub (Nat.le_succ _) (Nat.le_refl _)).step st3a (Nat.le_refl _)
 have hC3:ρ3 s2.h.next = .at_ gC 0:=by rw [←hρ3];exact Ev.upd_same _ _ _
 have hget3:(⟨s2.h.t,s2.h.next+1,s2.h.log⟩:Ev.H).get s2.h.next=none:=by
  cases hq:(⟨s2.h.t,s2.h.next+1,s2.h.log⟩:Ev.H).get s2.h.next with
  | none=>rfl
  | some o=>
   obtain ⟨x,k,o',h1,_⟩:=hr2.ob s2.h.next o hq
   rw [hup2] at h1;cases h1
 have hsz8:w8.heap.size=gC+1:=by rw [hw8',← hgC];simp
 generalize hb4:b3.put (some c.d17) (.chan (some gC))=b4
 have ht4:Ev.TR ρ3 n (Ev.T.put Ev.T.deep t3 c.d17 (some (.chan (some s2.h.next)))) b4.tmps:=by
  have h1:Ev.TR ρ3 n t3 b3.tmps:=ht3.mono st3a.le
  have h2:Ev.jl t3 n (some c.d17) (.chan (some s2.h.next))=some (Ev.T.put Ev.T.deep t3 c.d17 (some (.chan (some s2.h.next)))):=by
   exact PQ a14 hc.l17
  rw [←hb4]
  exact h1.put h2 (.chan (by unfold Ev.BR;rw [hC3]))
 have hK2:Ev.kH P L N (@lU (aK P L N) P (· ∈ L) Z w00 Post (gC+1) (Dt gC m')):=rf hz hSk (Dt.still (Nat.lt_succ_self _))
 have hI2:=FI (inv:=inv) hK2 hI
 refine Ev.zn.ops hI2 qP hbk hbr hcs' (l:=[c.Xy,c.Xx]) (i:=2) (by rfl) e2as ht4 hr3 (hu3.sub (Nat.le_refl _) (by show h5.next≤hi;omega)) fun ρ4 b5 w9 d5 st4a hr4 ht5=>?_
 have st4:Ev.Stp ρ h w ρ4 h5 w9:=st3.trans st4a
 have hu4:Ev.gK ρ4 h5.next hi:=(hu3.sub n2 (Nat.le_refl _)).step st4a (Nat.le_refl _)
 have hC4:ρ4 s2.h.next = .at_ gC 0:=by rw [kL st4a hget3 (Nat.lt_succ_self _) (by rw [hC3];simp)];exact hC3
 have hget4:h5.get s2.h.next=none:=zA st4a hget3 (Nat.lt_succ_self _)
 have hsz9:gC+1≤w9.heap.size:=by rw [←hsz8];exact st4a.size
 refine dW hK2 hcs' fun w10 g10=>?_
 refine gp hK2 hcs' fun TA g11=>?_
 have e11:TA.heap=w9.heap:=by rw [g11,g10]
 have hrng3:List.range (#[c.o3]:Array Oper).size=[0]:=rfl
 rw [hrng3]
 have hw3:Region.wanted c.o3 (yielded #[c.o3] b5.tmps)=true:=by unfold Region.wanted;rw [hc.g3]
 refine @lU.XD (aK P L N) P (· ∈ L) Z w00 Post b b5 _ (cf::cs) TA #[c.o3] 0 [] c.o3 hbk hbr rfl hw3 Lk.tWg c.zg hc.op3 hc.zg hc.zgc gC m' (gC+1) (by rw [e11];omega) (by rw [e11];omega) ?_
 rw [hc.d3]
 generalize hgW:TA.heap.size=gW
 generalize hw12:({ TA with heap:=TA.heap.push (.cells #[] Lk.tWg (0,0)) }:World)=w12
 have hw12':w12.heap=TA.heap.push (.cells #[] Lk.tWg (0,0)):=by rw [←hw12]
 have hup4:ρ4 h5.next = .aT:=hu4 _ (Nat.le_refl _) (by omega)
 obtain ⟨st5a,hr5⟩:=reserve (w':=w12) (hr4.heap e11) hup4 hw12' rfl
 rw [hgW] at st5a hr5
 generalize hρ5:Ev.upd ρ4 h5.next (.at_ gW 0)=ρ5 at st5a hr5
 have st5:Ev.Stp ρ h w ρ5 ⟨h5.t,h5.next+1,h5.log⟩ w12:=st4.trans (st5a.heap e11)
 have hu5:Ev.gK ρ5 (h5.next+1) hi:=(hu4.sub (Nat.le_succ _) (Nat.le_refl _)).step st5a (Nat.le_refl _)
 have hW5:ρ5 h5.next = .at_ gW 0:=by rw [←hρ5];exact Ev.upd_same _ _ _
 have hCW:s2.h.next<h5.next:=n2
 have hC5:ρ5 s2.h.next = .at_ gC 0:=by rw [←hρ5,Ev.aJ _ _ (by omega)];exact hC4
 have hgetW5:(⟨h5.t,h5.next+1,h5.log⟩:Ev.H).get h5.next=none:=by
  cases hq:(⟨h5.t,h5.next+1,h5.log⟩:Ev.H).get h5.next with
  | none=>rfl
  | some o=>
   obtain ⟨x,k,o',h1,_⟩:=hr4.ob h5.next o hq
   rw [hup4] at h1;cases h1
 have hgWC:gC<gW:=by rw [←hgW,e11];omega
 have hsz12:w12.heap.size=gW+1:=by rw [hw12',← hgW];simp
 generalize hb6:b5.put (some c.d7) (.pointer (some ⟨gW,0,none⟩))=b6
 have ht6:Ev.TR ρ5 n (Ev.T.put Ev.T.deep t5 c.d7 (some (.pointer (some ⟨h5.next,0,none⟩)))) b6.tmps:=by
  have h1:Ev.TR ρ5 n t5 b5.tmps:=ht5.mono st5a.le
  have h2:Ev.jl t5 n (some c.d7) (.pointer (some ⟨h5.next,0,none⟩))=some (Ev.T.put Ev.T.deep t5 c.d7 (some (.pointer (some ⟨h5.next,0,none⟩)))):=by
   exact PQ a15 hc.l7
  rw [←hb6]
  exact h1.put h2 (.ptr ⟨by show Ev.BR _ h5.next _;unfold Ev.BR;rw [hW5],rfl,rfl,rfl⟩)
 have hK4:Ev.kH P L N (@lU (aK P L N) P (· ∈ L) Z w00 Post (gW+1) (GI Lk.tWg gW gC m')):=rf hz hSk (GI.still (Nat.lt_succ_self _) (by omega))
 have hI4:=FI (inv:=inv) hK4 hI
 refine lg hK4 hcs' fun WI g13=>?_
 refine dW hK4 hcs' fun w14 g14=>?_
 refine dW hK4 hcs' fun w15 g15=>?_
 have e15:w15.heap=w12.heap:=by rw [g15,g14,g13]
 obtain ⟨_,r4⟩:=Ev.jE hI4 qP c.c4 _ _ ec4
 refine r4 ρ5 b b6 _ (cf::cs) w15 hbk hbr hcs' ht6 (hr5.heap e15) (hu5.sub (Nat.le_refl _) (by show s7'.h.next≤hi;omega)) fun ρ6 b7 w16 d7 st6a hr6 ht7=>?_
 have st6a:Ev.Stp ρ5 ⟨h5.t,h5.next+1,h5.log⟩ w12 ρ6 s7'.h w16:=st6a.heap e15
 have st6:Ev.Stp ρ h w ρ6 s7'.h w16:=st5.trans st6a
 have hu6:Ev.gK ρ6 s7'.h.next hi:=(hu5.sub n4 (Nat.le_refl _)).step st6a (Nat.le_refl _)
 have hgetC5:(⟨h5.t,h5.next+1,h5.log⟩:Ev.H).get s2.h.next=none:=hget4
 have hW6:ρ6 h5.next = .at_ gW 0:=by rw [kL st6a hgetW5 (Nat.lt_succ_self _) (by rw [hW5];simp)];exact hW5
 have hC6:ρ6 s2.h.next = .at_ gC 0:=by rw [kL st6a hgetC5 (Nat.lt_succ_of_lt hCW) (by rw [hC5];simp)];exact hC5
 have hgetC6:s7'.h.get s2.h.next=none:=zA st6a hgetC5 (Nat.lt_succ_of_lt hCW)
 have hsz16:gW+1≤w16.heap.size:=by rw [←hsz12];exact st6a.size
 refine xE hK4 hcs' fun w17 g17=>?_
 refine Kt hK4 hcs' fun w18 g18=>?_
 have e18:w18.heap=w16.heap:=by rw [g18,g17]
 have n4':h5.next+1≤s7'.h.next:=n4
 refine DF.crew hz hSk H hN hI hc.cw (h:=s7'.h) (hi:=hi) a12 a13 (hr6.heap e18) hW6 (by rw [e18];omega) hC6 (by rw [e18];omega) hgetC6 (by omega) (by omega) hu6 (by omega) erounds hps (Nat.le_refl _) (by omega) hbk hbr hcs' ht7 ⟨Nat.lt_succ_self _,by omega⟩ fun b8 w19 d8 ht8 hr8 st8a=>?_
 have hK5:Ev.kH P L N (@lU (aK P L N) P (· ∈ L) Z w00 Post (gW+1) (IX gC m' (ps.filterMap id))):=rf hz hSk (IX.still (by omega))
 rw [Frame.finish_atR]
 simp only [List.getElem?_toArray,List.getElem?_cons_zero,Option.bind_some,hc.d10]
 generalize hb9:b8.put (some c.d25) (.tuple #[])=b9
 have ht9:Ev.TR ρ6 n (Ev.strike tE c.d25) b9.tmps:=by rw [←hb9];exact ht8.forget hc.l25 _
 have st8a:Ev.Stp ρ6 s7'.h w18 ρ6 s7'.h w19:=st8a
 have st8:Ev.Stp ρ h w ρ6 s7'.h w19:=st6.trans (st8a.heap e18)
 refine lg hK5 hcs' fun w20 g20=>?_
 refine dW hK5 hcs' fun w21 g21=>?_
 refine gp hK5 hcs' fun w22 g22=>?_
 have e22:w22.heap=w19.heap:=by rw [g22,g21,g20]
 have hrng11:List.range (#[c.Js,c.Fa]:Array Oper).size=[0,1]:=rfl
 rw [hrng11]
 have hI5:=FI (inv:=inv) hK5 hI
 have hrng11':([0,1]:List Nat)=List.range' 0 [c.Js].length++[1]:=rfl
 rw [hrng11']
 refine JE hI5 qP hbk hbr hcs' (l:=[c.Js]) (i:=0) (rest:=[1]) (fun j hj=>by simp at hj;subst hj;rfl) eload ht9 (hr8.heap e22) (hu6.sub (Nat.le_refl _) (by show h8.next≤hi;omega)) fun ρ7 b10 w23 d10 st9a hr9 ht10=>?_
 have st9a:Ev.Stp ρ6 s7'.h w19 ρ7 h8 w23:=st9a.heap e22
 have st9:Ev.Stp ρ h w ρ7 h8 w23:=st8.trans st9a
 have hu7:Ev.gK ρ7 h8.next hi:=(hu6.sub n8 (Nat.le_refl _)).step st9a (Nat.le_refl _)
 have hC7:ρ7 s2.h.next = .at_ gC 0:=by rw [kL st9a hgetC6 (by omega) (by rw [hC6];simp)];exact hC6
 have hgetC7:h8.get s2.h.next=none:=zA st9a hgetC6 (by omega)
 have hw11c:Region.wanted c.Fa (yielded #[c.Js,c.Fa] b10.tmps)=true:=by unfold Region.wanted;rw [hc.g11c]
 have hvch:b10.eval (.tmp c.d26) = .chan (some gC):=by
  have h3:=Ev.dh ht10 _ _ ekch
  generalize b10.eval (.tmp c.d26)=y at h3
  cases h3 with
  | same h=>cases h
  | chan h4=>rw [h4.at_ hC7]
 refine @lU.close (aK P L N) P (· ∈ L) Z w00 Post b b10 _ (cf::cs) w23 #[c.Js,c.Fa] 1 [] c.Fa hbk hbr rfl hw11c (.tmp c.d26) c.VT hc.op11c trivial gC m' (gW+1) (ps.filterMap id) hvch fun l hperm=>?_
 rw [hc.d11c]
 have hput:b10.put none (.tuple #[])=b10:=rfl
 rw [hput]
 have hK6:Ev.kH P L N (@lU (aK P L N) P (· ∈ L) Z w00 Post (gW+1) (iZ gC m' l)):=rf hz hSk (iZ.still (by omega))
 have hI6:=FI (inv:=inv) hK6 hI
 refine lg hK6 hcs' fun w24 g24=>?_
 refine dW hK6 hcs' fun w25 g25=>?_
 have e25:w25.heap=w23.heap:=by rw [g25,g24]
 obtain ⟨_,r12⟩:=Ev.jE hI6 qP c.c12 _ _ ec12
 refine r12 ρ7 b b10 _ (cf::cs) w25 hbk hbr hcs' ht10 (hr9.heap e25) (hu7.sub (Nat.le_refl _) (by show s10.h.next≤hi;omega)) fun ρ8 b11 w26 d11 st10a hr10 ht11=>?_
 have st10a:Ev.Stp ρ7 h8 w23 ρ8 s10.h w26:=st10a.heap e25
 have st10:Ev.Stp ρ h w ρ8 s10.h w26:=st9.trans st10a
 have hu8:Ev.gK ρ8 s10.h.next hi:=(hu7.sub n12 (Nat.le_refl _)).step st10a (Nat.le_refl _)
 have hC8:ρ8 s2.h.next = .at_ gC 0:=by rw [kL st10a hgetC7 (by omega) (by rw [hC7];simp)];exact hC7
 have hgetC8:s10.h.get s2.h.next=none:=zA st10a hgetC7 (by omega)
 refine dW hK6 hcs' fun w27 g27=>?_
 refine dW hK6 hcs' fun w28 g28=>?_
 have e28:w28.heap=w26.heap:=by rw [g28,g27]
 obtain ⟨_,r13⟩:=Ev.jE hI6 qP c.c13 _ _ ec13
 refine r13 ρ8 b b11 _ (cf::cs) w28 hbk hbr hcs' ht11 (hr10.heap e28) (hu8.sub (Nat.le_refl _) (by show s11'.h.next≤hi;omega)) fun ρ9 b12 w29 d12 st11a hr11 ht12=>?_
 have st11a:Ev.Stp ρ8 s10.h w26 ρ9 s11'.h w29:=st11a.heap e28
 have st11:Ev.Stp ρ h w ρ9 s11'.h w29:=st10.trans st11a
 have hu9:Ev.gK ρ9 s11'.h.next hi:=(hu8.sub n13 (Nat.le_refl _)).step st11a (Nat.le_refl _)
 have hC9:ρ9 s2.h.next = .at_ gC 0:=by rw [kL st11a hgetC8 (by omega) (by rw [hC8];simp)];exact hC8
 refine xE hK6 hcs' fun w30 g30=>?_
 refine Kt hK6 hcs' fun w31 g31=>?_
 have e31:w31.heap=w29.heap:=by rw [g31,g30]
 have hr12:Ev.HR ρ9 s11'.h w31:=hr11.heap e31
 have st12:Ev.Stp ρ h w ρ9 s11'.h w31:=st11.trans (.refl _ _ _ _ e31)
 have h9v:b12.tmps[c.rc.d9]? = some (.slice none 0 0):=by
  split at a6
  ·rename_i hg9
   obtain ⟨v9,h1,h2⟩:=ht12.get _ _ hg9
   rw [h2.flat rfl] at h1
   exact h1
  ·cases a6
 have htL:Ev.TR ρ9 n (Ev.T.put Ev.T.deep .nil c.d27 (some (.chan (some s2.h.next)))) b12.tmps:=ht12.sub a5
 have hmem:∀ u∈l,u∈ps.filterMap id:=fun u hu=>hperm.mem_iff.1 hu
 have hone:∀ u∈ps.filterMap id,U0 u=true∧Ev.fO L [u]=true∧c.rc.nX P L n (Ev.T.put Ev.T.deep .nil c.d27 (some (.chan (some s2.h.next)))) u=true∧BL inv c.rc.fL s11'.h u (intsOf inv c.rc.fL s11'.h u) c.iT=true∧(∀ h' v,inv (.func c.rc.fL) [u] ⟨s11'.h.t,s11'.h.next,[]⟩=some (v,h')→h'.next≤hi)∧Ev.ig (intsOf inv c.rc.fL s11'.h u)=true:=fun u hu=>by
  have:=List.all_eq_true.1 a9 u hu
  unfold GN.lT at this
  simp only [Bool.and_eq_true] at this
  obtain ⟨⟨⟨⟨⟨o1,o2⟩,o3⟩,o4⟩,o5⟩,o6⟩:=this
  refine ⟨o1,o2,o3,o4,fun h' v hv=>?_,o6⟩
  rw [hv] at o5
  exact Nat.le_of_ble_eq_true o5
 have hll:l.length=(ps.filterMap id).length:=hperm.length_eq
 have hchx:Ev.aG (Ev.T.put Ev.T.deep .nil c.d27 (some (.chan (some s2.h.next)))) c.rc.ML=some (.chan (some s2.h.next)):=by
  rw [hc.ML]
  show (Ev.T.put (α:=Value) Ev.T.deep .nil c.d27 (some (.chan (some s2.h.next)))).get c.d27=some (Value.chan (some s2.h.next))
  rw [Ev.T.get_put _ _ _ _ _ (Ev.aO hc.l27),if_pos rfl]
 refine Gz.rounds (h:=s11'.h) (v0:=w31) (iT:=c.iT) (ints:=intsOf inv c.rc.fL s11'.h) hz hSk hI hc.rc hr12 hC9 (by omega) hu9 a7 hchx a8 hbk hbr hcs' l (fun u hu=>?_) [] [] (.slice none 0 0) b12 w31 (by simp;omega) ⟨rfl,fun i u y hi=>by simp at hi,List.nodup_nil,.inl ⟨rfl,rfl⟩,fun _ _=>rfl,Nat.le_refl _,hr12.dH⟩ htL h9v fun b13 w32 bs sv d13 hG ht13 h913=>?_
 ·obtain ⟨o1,o2,o3,o4,o5,_⟩:=hone u (hmem u hu)
  refine ⟨?_,?_,o2,o3,o4,o5⟩
  ·cases u<;>first | rfl | (cases o1;done)
  ·cases u<;>first | rfl | (cases o1;done)
 have hvi:ps.filterMap id≠[]:=fun e=>by rw [e] at a3;cases a3
 have hG:DD c.iT c.rc.el (intsOf inv c.rc.fL s11'.h) w31 w32 l bs sv:=hG
 obtain ⟨ρ10,stB,hrB,vB⟩:=DD.Wv hr12 hG hperm (tq a4) hvi (hu9.sub (Nat.le_refl _) a10) a11 fun u hu=>(hone u hu).2.2.2.2.2
 have ht14:Ev.TR ρ10 n (Ev.T.put Ev.T.deep (Ev.T.put Ev.T.deep .nil c.d27 (some (.chan (some s2.h.next)))) c.rc.d9 (some (.slice (some ⟨s11'.h.next,0,none⟩) (ps.filterMap id).length Ev.soft))) b13.tmps:=(ht13.mono stB.le).know hc.l9 h913 vB
 have st14:Ev.Stp ρ h w ρ10 (Pq (intsOf inv c.rc.fL s11'.h) c.iT c.rc.el (ps.filterMap id) s11'.h) w32:=st12.trans stB
 have hu10:Ev.gK ρ10 (Pq (intsOf inv c.rc.fL s11'.h) c.iT c.rc.el (ps.filterMap id) s11'.h).next x17.2.h.next:=(hu9.sub (by show s11'.h.next≤s11'.h.next+1+_;omega) ehi).step stB (Nat.le_refl _)
 refine @KM.any (aK P L N) P (· ∈ L) Z w00 Post _ _ _ _ _ ?_
 have hdef:b13.defers=[]:=by
  rw [d13,d12,d11,d10,← hb9,Ev.put_defers,d8,d7,← hb6,Ev.put_defers,d5,← hb4,Ev.put_defers,d3,d2,d1,hd0]
 refine r17 ρ10 b b13 [] (cf::cs) w32 hbk hbr hcs' ht14 hrB hu10 fun ρ' a' w' d1 d2 d3 d4=>?_
 have hda:a'.defers=[]:=d1.trans hdef
 have d2:Ev.Stp ρ h w ρ' x17.2.h w':=st14.trans d2
 obtain ⟨ex,sx⟩:=x17
 cases ex with
 | exit id=>exact absurd ⟨id,rfl⟩ hne
 | normal=>
  show @KM (aK P L N) P (· ∈ L) Z w00 Post (b.atR a' []) (cf::cs) w'
  refine hKM.own (@DU P (aK P L N) _ _ rfl rfl) fun tp=>?_
  exact ⟨{ b.atR a' [] with mode:=.returning },cf::cs,wt w' tp,#[],by unfold Conc.G;simp [stepG,stepG.exec,Frame.atR,b];rfl,trivial,hcs',fun hc=>Ren.aX hc rfl,.of rfl,leave ρ' a' (wt w' tp) [] hda (d2.tape tp) (d3.heap rfl) d4⟩
 | ret=>
  intro k0
  refine hKM.own (Ev.kS rfl) fun tp=>?_
  exact ⟨{ b.atR a' (.code .ret::k0) with mode:=.returning },cf::cs,wt w' tp,#[],by unfold Conc.G;simp [stepG,stepG.exec,Frame.atR,b];rfl,trivial,hcs',fun hc=>Ren.aX hc rfl,.of rfl,leave ρ' a' (wt w' tp) _ hda (d2.tape tp) (d3.heap rfl) d4⟩
end
end Crew
end Go
end
end
section
section
namespace Go
namespace Inst
open Go.Conc.Lib
def bH:Code→Code
 | .seq a _=>a
 | c=>c
def cZ:Code→Code
 | .seq _ b=>b
 | c=>c
def AX:Code→Nat
 | .block i _=>i
 | _=>0
def JV:Code→Code
 | .block _ c=>c
 | c=>c
def LD:Code→Code
 | .loop c=>c
 | c=>c
def pV:Code→Nat
 | .region i _ _=>i
 | _=>0
def jY:Code→Array Oper
 | .region _ ops _=>ops
 | _=>#[]
def condC:Code→Operand
 | .cond c _ _=>c
 | _=>default
def Qq:Code→Code
 | .cond _ a _=>a
 | c=>c
def fA (c:Code) (i:Nat):Oper:=(jY c)[i]?.getD default
def ug (o:Oper):Nat:=o.dst.getD 0
def WN:Operand→Nat
 | .tmp d=>d
 | _=>0
def callA:Op→Array Operand
 | .call c=>c.args
 | .go c=>c.args
 | .defer c=>c.args
 | _=>#[]
def IL:Op→Array TypeId
 | .call c=>c.argTypes
 | .go c=>c.argTypes
 | .defer c=>c.argTypes
 | _=>#[]
def VO:Op→FuncId
 | .call c=>match c.callee with
  | .value (.func f)=>f
  | _=>0
 | _=>0
def arg (o:Op) (i:Nat):Operand:=(callA o)[i]?.getD default
def under (P:Program) (t:TypeId):TypeDesc:=(P.underlying t).getD default
def xw (P:Program) (f:FuncId):Code:=match P.funcs[f]? with
 | some fn=>match fn.body with
  | some c=>c
  | none=>.skip
 | none=>.skip
def vU (P:Program) (f:FuncId):Func:=match P.funcs[f]? with
 | some fn=>fn
 | none=>default
def loadT:Op→TypeId
 | .load t _=>t
 | _=>0
def LG:Op→Operand
 | .load _ x=>x
 | .indexAddr _ x _=>x
 | .makeChan _ x=>x
 | .recv _ x _=>x
 | .send x _=>x
 | .store _ _ x=>x
 | _=>default
def sendY:Op→Operand
 | .send _ y=>y
 | _=>default
def Du:Op→TypeId
 | .load t _=>t
 | .alloc t=>t
 | .makeChan t _=>t
 | .recv t _ _=>t
 | .buildSlice t _ _=>t
 | .store t _ _=>t
 | _=>0
def bstOf (P:Program) (f:FuncId):Ev.Bst:=
 let c:=xw P f
 let s:=bH (cZ c)
 let blk:=cZ s
 let lb:=LD (JV blk)
 let l2:=cZ (cZ lb)
 let inn:=JV (bH l2)
 let cnd:=cZ (cZ inn)
 { fn:=vU P f,c0:=bH c,c1:=bH s,c7:=cZ (cZ c),ry:=AX blk,lM:=AX (bH l2),i2:=pV (bH lb),i3:=pV (bH inn),i4:=pV (bH (cZ inn)),i5:=pV (Qq cnd),i6:=pV (cZ l2),
   ops2:=jY (bH lb),c12:=condC (bH (cZ lb)),Xz:=fA (bH inn) 0,RI:=fA (bH inn) 1,o8:=fA (bH inn) 2,ops4:=jY (bH (cZ inn)),c19:=condC cnd,ops5:=jY (Qq cnd),ops6:=jY (cZ l2),
   d1:=ug (fA (Qq cnd) 1),d8:=ug (fA (bH inn) 2),d9:=WN (LG (fA (bH inn) 0).op),d11:=ug (fA (cZ l2) 1),d13:=ug (fA (bH inn) 0),d14:=ug (fA (bH inn) 1),tE:=loadT (fA (bH inn) 1).op,dE:=under P (loadT (fA (bH inn) 1).op) }
def goF:Op→FuncId
 | .makeFunc (.func f) _ _=>f
 | _=>0
def Z7:Op→Array Operand
 | .makeFunc _ _ c=>c
 | _=>#[]
def chE:TypeDesc→TypeId
 | .chan _ e=>e
 | .slice e=>e
 | _=>0
def chD:TypeDesc→ChanDir
 | .chan d _=>d
 | _=>default
def OG (P:Program) (t:TypeId):TypeInfo:=(P.info? t).getD default
def zOf (P:Program) (t:TypeId):Value:=(Ev.zeroOf P t).getD default
def crwOf (P:Program) (f:FuncId):Crew.DF:=
 let r3:=cZ (cZ (cZ (xw P f)))
 let r4:=cZ r3
 let blk:=cZ (bH r4)
 let lb:=LD (JV blk)
 let l2:=cZ (cZ lb)
 let inn:=JV (bH l2)
 let R6:=bH inn
 let R7:=bH (cZ inn)
 let R8:=cZ (cZ inn)
 let wc:=goF (fA R8 0).op
 let w:=xw P wc
 let W1:=bH (cZ w)
 let W2:=Qq (cZ (cZ w))
 let so:=(jY W2).back?.getD default
 { wc:=wc,fn:=vU P wc,j0:=pV (bH w),j1:=pV W1,j2:=pV W2,o0:=fA (bH w) 0,so:=so,iI:=jY W1,ops2:=jY W2,l2:=(jY W2).toList.dropLast,cnd:=condC (cZ (cZ w)),x0:=arg (fA (bH w) 0).op 0,
   ch:=LG so.op,x:=sendY so.op,VV:=IL (fA (bH w) 0).op,i5:=pV (bH lb),i6:=pV R6,i7:=pV R7,i8:=pV R8,i9:=pV (cZ l2),i10:=pV (bH (cZ r4)),ry:=AX blk,lM:=AX (bH l2),
   ops5:=jY (bH lb),ops9:=jY (cZ l2),Xw:=fA R6 0,Tj:=fA R6 1,Ti:=fA R6 2,o7:=fA R7 0,Om:=fA R8 0,Ol:=fA R8 1,Hf:=fA (bH (cZ r4)) 0,c5:=condC (bH (cZ lb)),
   tid:=Du (fA R6 1).op,ti:=OG P (Du (fA R6 1).op),z0:=zOf P (Du (fA R6 1).op),u0:=(zOf P (Du (fA R6 1).op)).cells[0]?.getD default,d8:=ug (fA R6 1),d22:=ug (fA R7 0),d23:=ug (fA R8 0),y6:=LG (fA R6 2).op,
   xA:=arg (fA R7 0).op 0,xW:=arg (fA (bH (cZ r4)) 0).op 0,caps:=Z7 (fA R8 0).op,ats7:=IL (fA R7 0).op,ats8:=IL (fA R8 1).op,VU:=IL (fA (bH (cZ r4)) 0).op }
def PX (P:Program) (f:FuncId):Crew.Gz:=
 let r5:=cZ (cZ (cZ (cZ (cZ (xw P f)))))
 let r8:=cZ (cZ (cZ r5))
 let blk:=cZ (bH r8)
 let lb:=LD (JV blk)
 let R14:=bH lb
 let l1:=cZ lb
 let inn:=JV (cZ l1)
 let R15:=bH inn
 let R16:=cZ inn
 { i14:=pV R14,i15:=pV R15,i16:=pV R16,MP:=AX blk,Yi:=AX (cZ l1),uM:=fA R14 0,uN:=fA R14 1,ET:=jY R15,RH:=fA R16 0,o32:=fA R16 1,UA:=fA R16 2,Tm:=fA R16 3,Oo:=fA R16 4,RD:=fA R16 5,
   c29:=condC (bH l1),fL:=VO (fA R16 2).op,d9:=ug (fA R16 5),d28:=ug (fA R14 0),d31:=ug (fA R16 0),d33:=ug (fA R16 2),d34:=ug (fA R16 3),d35:=ug (fA R16 4),x32:=arg (fA R16 2).op 0,ML:=LG (fA R14 0).op,
   TI:=Du (fA R14 0).op,MB:=chE (under P (Du (fA R14 0).op)),dch:=chD (under P (Du (fA R14 0).op)),QD:=zOf P (chE (under P (Du (fA R14 0).op))),ts:=Du (fA R16 3).op,el:=chE (under P (Du (fA R16 3).op)),
   ti:=OG P (chE (under P (Du (fA R16 3).op))),z:=zOf P (chE (under P (Du (fA R16 3).op))),YS:=IL (fA R16 2).op }
def lstOf (P:Program) (Lk:WgLink) (f:FuncId):Crew.GN:=
 let c:=xw P f
 let r2:=cZ (cZ c)
 let R2:=bH r2
 let r3:=cZ r2
 let r4:=cZ r3
 let r5:=cZ r4
 let r6:=cZ r5
 let r7:=cZ r6
 let r8:=cZ r7
 { fn:=vU P f,cw:=crwOf P f,rc:=PX P f,c0:=bH c,c1:=bH (cZ c),i2:=pV R2,i3:=pV (bH r3),i11:=pV (bH r6),Ws:=fA R2 0,Tn:=fA R2 1,Xy:=fA R2 2,Xx:=fA R2 3,o3:=fA (bH r3) 0,c4:=bH (bH r4),
   Js:=fA (bH r6) 0,Fa:=fA (bH r6) 1,c12:=bH r7,c13:=bH (bH r8),c17:=cZ r8,QG:=LG (fA R2 1).op,tel:=OG P (PX P f).MB,d17:=ug (fA R2 1),d7:=ug (fA (bH r3) 0),zg:=zOf P Lk.tWg,
   d25:=ug (fA (bH r5) 0),d26:=WN (arg (fA (bH r6) 1).op 0),d27:=WN (PX P f).ML,VT:=IL (fA (bH r6) 1).op,iT:=chE (under P (PX P f).el) }
end Inst
end Go
end
end
