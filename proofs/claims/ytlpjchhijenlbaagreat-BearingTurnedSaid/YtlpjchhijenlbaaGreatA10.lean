/- Of the proof of BearingTurned: Bst2 Bst3 Ev26 Ev27 Mg1 Mg2 Srt1 -/
import Derived.Test.YtlpjchhijenlbaaGreatA09
import Derived.Test.YtlpjchhijenlbaaGreatA08
set_option linter.unusedSectionVars false
set_option linter.unusedVariables false
set_option linter.unusedSimpArgs false
section
section
namespace Go
namespace Ev
structure Bst where
 fn:Func
 c0:Code
 c1:Code
 c7:Code
 ry:Nat
 lM:Nat
 i2:Nat
 i3:Nat
 i4:Nat
 i5:Nat
 i6:Nat
 ops2:Array Oper
 c12:Operand
 Xz:Oper
 RI:Oper
 o8:Oper
 ops4:Array Oper
 c19:Operand
 ops5:Array Oper
 ops6:Array Oper
 d1:Nat
 d8:Nat
 d9:Nat
 d11:Nat
 d13:Nat
 d14:Nat
 tE:TypeId
 dE:TypeDesc
def Bst.inner (c:Bst):Code:=.seq (.region c.i3 #[c.Xz,c.RI,c.o8] false) (.seq (.region c.i4 c.ops4 false) (.cond c.c19 (.region c.i5 c.ops5 false) .skip))
def Bst.loopBody (c:Bst):Code:=.seq (.region c.i2 c.ops2 false) (.seq (.cond c.c12 .skip (.exit c.ry)) (.seq (.block c.lM c.inner) (.region c.i6 c.ops6 false)))
def Bst.body (c:Bst):Code:=.seq c.c0 (.seq (.seq c.c1 (.block c.ry (.loop c.loopBody))) c.c7)
structure Bst.OK (P:Program) (c:Bst) (f:FuncId):Prop where
 ff:P.funcs[f]? = some c.fn
 fb:c.fn.body=some c.body
 fname:(c.fn.name == "runtime.NumGoroutine")=false
 g14:c.RI.guard=none
 d14e:c.RI.dst=some c.d14
 op14:c.RI.op = .load c.tE (.tmp c.d13)
 tE:P.underlying c.tE=some c.dE
 agE:VZ c.dE=false
 l1:c.d1<top
 l8:c.d8<top
 l11:c.d11<top
 l14:c.d14<top
section
variable (P:Program) (inv:Iv) (c:Bst) (n:Nat) (tL:T Value) (h:H)
def Bst.ops3 (c:Bst):List Oper:=[c.Xz,c.RI,c.o8]
def Bst.tI (c:Bst) (tL:T Value) (i:Nat):T Value:=T.put T.deep tL c.d11 (some (.int .i64 (.ofNat i)))
def Bst.LM (i:Nat):Option Bool:=match rD P inv n c.ops2.toList c.ops2.toList (c.tI tL i) h with
 | some t2=>match aG t2 c.c12 with
  | some (.bool q)=>some q
  | _=>none
 | none=>none
def Bst.PL (nb i:Nat):Bool:=(match c.LM P inv n tL h i with | some true=>true | _=>false) &&
 (match rD P inv n c.ops3 [c.Xz] (c.tI tL i) h with
  | some t3=>match t3.get c.d13 with
   | some (.pointer (some ⟨x,o,none⟩))=>Nat.beq x nb&&Nat.beq o i
   | _=>false
  | none=>false) &&
 (match rD P inv n c.ops6.toList c.ops6.toList (c.tI tL i) h with
  | some t6=>match t6.get c.d11 with
   | some v=>uz v (.int .i64 (.ofNat (i+1)))
   | none=>false
  | none=>false)&&Nat.blt c.d14 n
def Bst.vO (b u:Value):Option Value:=match rD P inv n c.ops3 [c.o8] (T.put T.deep .nil c.d14 (some u)) h with
 | some t8=>match t8.get c.d8 with
  | some u1=>match uz u1 u,rD P inv n c.ops4.toList c.ops4.toList (T.put T.deep (T.put T.deep tL c.d1 (some b)) c.d8 (some u)) h with
   | true,some t4=>match aG t4 c.c19 with
    | some (.bool true)=>match rD P inv n c.ops5.toList c.ops5.toList t4 h with
     | some t5=>t5.get c.d1
     | none=>none
    | some (.bool false)=>t4.get c.d1
    | _=>none
   | _,_=>none
  | none=>none
 | none=>none
def Bst.LY (c:Bst) (tL:T Value):Bool:=clear tL c.ops2.toList&&clear tL c.ops3&&clear tL c.ops4.toList&&clear tL c.ops5.toList&&clear tL c.ops6.toList &&
 !puts c.d11 c.ops2.toList && !puts c.d11 c.ops3 && !puts c.d11 c.ops4.toList && !puts c.d11 c.ops5.toList &&
 !puts c.d1 c.ops2.toList && !puts c.d1 c.ops3 && !puts c.d1 c.ops6.toList
def Bst.Yt (first m:Value) (cells:List Value):Bool:=(cells.all fun u=>(first::cells).all fun b=>match c.vO P inv n tL h b u with
  | some b2=>(first::cells).any (uz b2)
  | none=>false) &&
 (cells.all fun u=>match c.vO P inv n tL h m u with | some b2=>uz b2 m | none=>false) &&
 (uz first m || (cells.any (fun u=>uz u m)&&(first::cells).all fun b=>match c.vO P inv n tL h b m with | some b2=>uz b2 m | none=>false))
def Bst.YJ:List Value→Value→Option Value
 | [],b=>some b
 | u::l,b=>match c.vO P inv n tL h b u with
  | some b2=>Bst.YJ l b2
  | none=>none
end
section
variable (P:Program) (inv:Iv) (c:Bst)
def Bst.aG (f:FuncId) (args:List Value) (h:H):Option (Value × H):=
 match qI 0 args .nil with
 | some ta=>match fQ P inv f (args.length+(c.fn.ntmps - args.length)) none c.c0 ⟨ta,h,[]⟩ with
  | some (.normal,s0)=>match fQ P inv f (args.length+(c.fn.ntmps - args.length)) none c.c1 s0 with
   | some (.normal,⟨t1,h1,[]⟩)=>match t1.get c.d11,t1.get c.d1,t1.get c.d9 with
    | some (.int .i64 (.ofNat 0)),some first,some (.slice (some ⟨nb,0,none⟩) len _)=>match h1.get nb with
     | some (.Wv cells _)=>match Nat.beq len cells.length&&(c.LY (T.put T.deep (T.put T.deep t1 c.d1 none) c.d11 none))&&((List.range len).all fun i=>c.PL P inv (args.length+(c.fn.ntmps - args.length)) (T.put T.deep (T.put T.deep t1 c.d1 none) c.d11 none) h1 nb i) &&
       (match c.LM P inv (args.length+(c.fn.ntmps - args.length)) (T.put T.deep (T.put T.deep t1 c.d1 none) c.d11 none) h1 len with | some false=>true | _=>false),c.YJ P inv (args.length+(c.fn.ntmps - args.length)) (T.put T.deep (T.put T.deep t1 c.d1 none) c.d11 none) h1 cells first with
      | true,some m=>match c.Yt P inv (args.length+(c.fn.ntmps - args.length)) (T.put T.deep (T.put T.deep t1 c.d1 none) c.d11 none) h1 first m cells,fQ P inv f (args.length+(c.fn.ntmps - args.length)) none c.c7 ⟨T.put T.deep (T.put T.deep (T.put T.deep t1 c.d1 none) c.d11 none) c.d1 (some m),h1,[]⟩ with
       | true,some x=>mO P c.fn x
       | _,_=>none
      | _,_=>none
     | _=>none
    | _,_,_=>none
   | _=>none
  | _=>none
 | none=>none
end
section
variable {P:Program} {inv:Iv} {c:Bst}
theorem TR.CV {ρ:aY} {n:Nat} {t:T Value} {a:Array Value} (h:TR ρ n t a) {d:Nat} (hd:d<top) {u v:Value} (hv:a[d]? = some v) (hr:VR ρ u v):TR ρ n (T.put T.deep t d (some u)) a:=by
 refine ⟨h.size,fun i x hx=>?_⟩
 rw [T.get_put _ _ _ _ _ (aO hd)] at hx
 split at hx
 ·rename_i e;cases hx;subst e;exact ⟨v,hv,hr⟩
 ·exact h.get i x hx
theorem TR.less1 {ρ:aY} {n:Nat} {t:T Value} {a:Array Value} (h:TR ρ n t a) {d:Nat} (hd:d<top):TR ρ n (T.put T.deep t d none) a:=by
 refine ⟨h.size,fun i x hx=>?_⟩
 rw [T.get_put _ _ _ _ _ (aO hd)] at hx
 split at hx
 ·cases hx
 ·exact h.get i x hx
theorem TR.nil1 {ρ:aY} {n:Nat} {t:T Value} {a:Array Value} (h:TR ρ n t a):TR ρ n (.nil:T Value) a:=⟨h.size,fun i x hx=>by cases hx⟩
structure Bst.At (c:Bst) (ρ:aY) (n:Nat) (tL:T Value) (h:H) (nb A:Nat) (el:TypeId) (d r:List Value) (w:World) (a:Act) (i:Nat) (b:Value):Prop where
 hr:HR ρ h w
 row:w.heap[A]? = some (.cells ⟨d++r⟩ el (0,0))
 nbA:∃ k,ρ nb = .at_ A k
 tr:TR ρ n tL a.tmps
 at11:a.tmps[c.d11]? = some (.int .i64 (.ofNat i))
 at1:∃ v,a.tmps[c.d1]? = some v∧VR ρ b v
theorem Eg {ρ ρ':aY} {h:H} {w':World} (hle:Le ρ ρ') (hr:HR ρ' h w') {nb A k:Nat} {o:Ob} (hg:h.get nb=some o) (hn:ρ nb = .at_ A k):ρ' nb = .at_ A k:=by
 rcases hle nb with e | e | e
 ·rw [hn] at e;cases e
 ·rw [e];exact hn
 ·obtain ⟨x,k',o',h1,_⟩:=hr.ob nb o hg
  rw [e] at h1;cases h1
set_option maxHeartbeats 1000000 in
theorem Bst.round (hI:iH P inv) {f:FuncId} (hc:c.OK P f) {ρ:aY} {n:Nat} {tL:T Value} {h:H} {nb A:Nat} {el:TypeId} {d r:List Value} {w:World} {b:Frame} {a:Act} {i:Nat} {bv b2 u u':Value} {k:List Item} {cs:List Frame}
  {ob:Ob} (hgb:h.get nb=some ob) (hfree:c.LY tL=true) (hs:c.PL P inv n tL h nb i=true) (hb:c.vO P inv n tL h bv u=some b2) (hAt:c.At ρ n tL h nb A el d r w a i bv) (hdu:d[i]? = some u') (hu:VR ρ u u') :
  ∃ ρ' a' w',Steps P (lone (b.atR a (.code c.loopBody :: .inLoop c.loopBody::k)) cs w) (lone (b.atR a' (.code c.loopBody :: .inLoop c.loopBody::k)) cs w')∧a'.defers=a.defers∧Stp ρ h w ρ' h w'∧c.At ρ' n tL h nb A el d r w' a' (i+1) b2:=by
 obtain ⟨hr,hrow,hnb,htr,h11,v1,h1,hv1⟩:=hAt
 unfold Bst.LY at hfree
 simp only [Bool.and_eq_true,Bool.not_eq_true'] at hfree
 obtain ⟨⟨⟨⟨⟨⟨⟨⟨⟨⟨⟨f1,f2⟩,f3⟩,f4⟩,f5⟩,p1⟩,p2⟩,p3⟩,p4⟩,p5⟩,p6⟩,p7⟩:=hfree
 unfold Bst.PL at hs
 simp only [Bool.and_eq_true] at hs
 obtain ⟨⟨⟨s1,s2⟩,s3⟩,f14⟩:=hs
 rw [Nat.blt_eq] at f14
 split at s1
 case h_2=>cases s1
 rename_i eh
 unfold Bst.LM at eh
 split at eh
 case h_2=>cases eh
 rename_i t2 e2
 split at eh
 case h_2=>cases eh
 rename_i q eq
 cases eh
 split at s2
 case h_2=>cases s2
 rename_i t3 e3
 split at s2
 case h_2=>cases s2
 rename_i x o e13
 simp only [Bool.and_eq_true] at s2
 obtain ⟨q1,q2⟩:=s2
 obtain rfl:=Nat.eq_of_beq_eq_true q1
 obtain rfl:=Nat.eq_of_beq_eq_true q2
 split at s3
 case h_2=>cases s3
 rename_i t6 e6
 split at s3
 case h_2=>cases s3
 rename_i v6 e11
 obtain rfl:=iU s3
 unfold Bst.vO at hb
 split at hb
 case h_2=>cases hb
 rename_i t8 e8
 split at hb
 case h_2=>cases hb
 rename_i u1 eu
 split at hb
 case h_2=>cases hb
 rename_i t4 eu1 e4
 obtain rfl:=(iU eu1).symm
 have hint:VR ρ (.int .i64 (.ofNat o)) (.int .i64 (.ofNat o)):=.same rfl
 obtain ⟨ρ1,a1,w1,g1,g2,g3,g4,g5,g6⟩:=lh (b:=b) (k:=.code (.seq (.cond c.c12 .skip (.exit c.ry)) (.seq (.block c.lM c.inner) (.region c.i6 c.ops6 false))) :: .inLoop c.loopBody::k) (cs:=cs) (id:=c.i2) hI e2 (htr.CV hc.l11 h11 hint) hr
 have tr1:TR ρ1 n tL a1.tmps:=htr.keep g3.le g5.size g6 f1
 have a11:a1.tmps[c.d11]? = some (.int .i64 (.ofNat o)):=by rw [g6 _ p1];exact h11
 have a1v:a1.tmps[c.d1]? = some v1:=by rw [g6 _ p5];exact h1
 have hcond:a1.eval c.c12 = .bool true:=(dh g5 _ _ eq).dQ
 obtain ⟨ρ2,a2,w2,m1,m2,m3,m4,m5,m6⟩:=zD (b:=b) (k:=.code (.seq (.region c.i4 c.ops4 false) (.cond c.c19 (.region c.i5 c.ops5 false) .skip)) :: .inBlock c.lM :: .code (.region c.i6 c.ops6 false) :: .inLoop c.loopBody::k) (cs:=cs) (rest:=[1,2]) hI (ops:=#[c.Xz,c.RI,c.o8]) (l:=[c.Xz]) (i:=0) (fun j hj=>by simp at hj;subst hj;rfl) e3 (tr1.CV hc.l11 a11 (.same rfl)) g4
 have m6':∀ j,puts j c.ops3=false→a2.tmps[j]? = a1.tmps[j]?:=fun j hj=>m6 j (by
  obtain ⟨z1,_⟩:=sV hj
  unfold puts
  simp only [List.any_cons,List.any_nil,Bool.or_false]
  split
  ·rename_i dd hdd
   rw [Bool.eq_false_iff]
   intro e
   obtain rfl:=Nat.eq_of_beq_eq_true e
   exact z1 hdd
  ·rfl)
 have tr2:TR ρ2 n tL a2.tmps:=tr1.keep m3.le m5.size m6' f2
 have a21:a2.tmps[c.d11]? = some (.int .i64 (.ofNat o)):=by rw [m6' _ p2];exact a11
 have a2v:a2.tmps[c.d1]? = some v1:=by rw [m6' _ p6];exact a1v
 obtain ⟨p',hp',hpv⟩:=m5.get _ _ e13
 obtain ⟨⟨blk,off,spot⟩,rfl,hA⟩:=hpv.iQ
 obtain ⟨kA,hnb⟩:=hnb
 have hnb1:=Eg g3.le g4 hgb hnb
 have hnb2:=Eg m3.le m4 hgb hnb1
 have hblk:blk=A:=hA.block.at_ hnb2
 have hoff:off=o:=hA.off
 have hspot:spot=none:=hA.spot'
 subst hblk hoff hspot
 have hrow2:w2.heap[blk]? = some (.cells ⟨d++r⟩ el (0,0)):=Ef m3 (Ef g3 hrow)
 have hcell:w2.cell? ⟨blk,off,none⟩=some u':=by
  have hlt:=(List.getElem?_eq_some_iff.1 hdu).1
  simp [World.cell?,hrow2,List.getElem?_append_left hlt,hdu]
 have hw14:Region.wanted c.RI (yielded #[c.Xz,c.RI,c.o8] a2.tmps)=true:=by unfold Region.wanted;rw [hc.g14]
 have hev13:a2.eval (.tmp c.d13) = .pointer (some ⟨blk,off,none⟩):=by
  show a2.tmps.getD c.d13 undef=_
  rw [Array.getD_eq_getD_getElem?,hp']
  rfl
 have hx14:(execOp a2.eval c.RI).run P w2 = .ok (.value u') w2:=by
  have:(do pure (.value (← Instr.loadAt c.tE (a2.eval (.tmp c.d13)))):Sem Next).run P w2 = .ok (.value u') w2:=by
   simp [Instr.loadAt,Instr.sureAddr,hev13,loadVar,A8 hc.tE,hc.agE,load,Sem.run,hcell]
  unfold execOp
  rw [hc.op14]
  exact this
 have hst14:=jo (P:=P) (b:=b) (a:=a2) (k:=.code (.seq (.region c.i4 c.ops4 false) (.cond c.c19 (.region c.i5 c.ops5 false) .skip)) :: .inBlock c.lM :: .code (.region c.i6 c.ops6 false) :: .inLoop c.loopBody::k) (cs:=cs) (ops:=#[c.Xz,c.RI,c.o8]) (i:=1) (rest:=[2]) (o:=c.RI) rfl hw14 (fun e he=>by rw [hc.op14] at he;cases he) hx14 (.inl rfl)
 rw [hc.d14e] at hst14
 have p14:puts c.d14 c.ops3=true:=by
  unfold puts Bst.ops3
  simp [hc.d14e]
 have n11:c.d11≠c.d14:=fun e=>by rw [e,p14] at p2;cases p2
 have n1:c.d1≠c.d14:=fun e=>by rw [e,p14] at p6;cases p6
 generalize ha3:a2.put (some c.d14) u'=a3 at hst14
 have hu2:VR ρ2 u u':=(hu.mono g3.le).mono m3.le
 have k3:∀ j,j≠c.d14→a3.tmps[j]? = a2.tmps[j]?:=fun j hj=>by rw [←ha3];exact BD a2 (fun e=>hj (by cases e;rfl)) u'
 have s3:a3.tmps.size=n:=by rw [←ha3];simp [Act.put,m5.size]
 have a3u:a3.tmps[c.d14]? = some u':=by rw [←ha3];simp [Act.put,m5.size,f14]
 have tr3:TR ρ2 n tL a3.tmps:=⟨s3,fun j v hj=>by
  obtain ⟨v',z1,z2⟩:=tr2.get j v hj
  refine ⟨v',?_,z2⟩
  rw [k3 j fun e=>?_]
  ·exact z1
  ·have:=MH f2 hj
   rw [e,p14] at this
   cases this⟩
 have tr3u:TR ρ2 n (T.put T.deep .nil c.d14 (some u)) a3.tmps:=(TR.nil1 tr3).CV hc.l14 a3u hu2
 obtain ⟨ρ3,a4,w3,r1,r2,r3,r4,r5,r6⟩:=zD (b:=b) (k:=.code (.seq (.region c.i4 c.ops4 false) (.cond c.c19 (.region c.i5 c.ops5 false) .skip)) :: .inBlock c.lM :: .code (.region c.i6 c.ops6 false) :: .inLoop c.loopBody::k) (cs:=cs) (rest:=[]) hI (ops:=#[c.Xz,c.RI,c.o8]) (l:=[c.o8]) (i:=2) (fun j hj=>by simp at hj;subst hj;rfl) e8 tr3u m4
 have r6':∀ j,puts j c.ops3=false→a4.tmps[j]? = a3.tmps[j]?:=fun j hj=>r6 j (by
  obtain ⟨_,z1⟩:=sV hj
  exact (sV z1).2)
 have tr4:TR ρ3 n tL a4.tmps:=tr3.keep r3.le r5.size r6' f2
 have a41:a4.tmps[c.d11]? = some (.int .i64 (.ofNat off)):=by rw [r6' _ p2,k3 _ n11];exact a21
 have a4v:a4.tmps[c.d1]? = some v1:=by rw [r6' _ p6,k3 _ n1];exact a2v
 obtain ⟨u8,hu8,hv8⟩:=r5.get _ _ eu
 have hv1':VR ρ3 bv v1:=((hv1.mono g3.le).mono m3.le).mono r3.le
 have tr4':TR ρ3 n (T.put T.deep (T.put T.deep tL c.d1 (some bv)) c.d8 (some u)) a4.tmps:=(tr4.CV hc.l1 a4v hv1').CV hc.l8 hu8 hv8
 obtain ⟨ρ4,a5,w4,x1,x2,x3,x4,x5,x6⟩:=lh (b:=b) (k:=.code (.cond c.c19 (.region c.i5 c.ops5 false) .skip) :: .inBlock c.lM :: .code (.region c.i6 c.ops6 false) :: .inLoop c.loopBody::k) (cs:=cs) (id:=c.i4) hI e4 tr4' r4
 have tr5:TR ρ4 n tL a5.tmps:=tr4.keep x3.le x5.size x6 f3
 have a51:a5.tmps[c.d11]? = some (.int .i64 (.ofNat off)):=by rw [x6 _ p3];exact a41
 have hgo:Steps P (lone (b.atR a (.code c.loopBody :: .inLoop c.loopBody::k)) cs w) (lone (b.atR a5 (.code (.cond c.c19 (.region c.i5 c.ops5 false) .skip) :: .inBlock c.lM :: .code (.region c.i6 c.ops6 false) :: .inLoop c.loopBody::k)) cs w4):=by
  refine .head stepR_seq (g1.trans (.head stepR_seq (.head (stepR_cond hcond) (.head stepR_skip (.head stepR_seq (.head stepR_block (.head stepR_seq (.head stepR_region ?_))))))))
  refine Steps.trans m1 (.head hst14 (r1.trans (.head stepR_region_end (.head stepR_seq x1))))
 have hst5:Stp ρ h w ρ4 h w4:=((g3.trans m3).trans r3).trans x3
 have hbest:∃ ρ5 a6 w5,Steps P (lone (b.atR a5 (.code (.cond c.c19 (.region c.i5 c.ops5 false) .skip) :: .inBlock c.lM :: .code (.region c.i6 c.ops6 false) :: .inLoop c.loopBody::k)) cs w4) (lone (b.atR a6 (.inBlock c.lM :: .code (.region c.i6 c.ops6 false) :: .inLoop c.loopBody::k)) cs w5) ∧
   a6.defers=a5.defers∧Stp ρ4 h w4 ρ5 h w5∧HR ρ5 h w5∧TR ρ5 n tL a6.tmps∧a6.tmps[c.d11]? = some (.int .i64 (.ofNat off))∧∃ v,a6.tmps[c.d1]? = some v∧VR ρ5 b2 v:=by
  split at hb
  ·rename_i e19
   split at hb
   case h_2=>cases hb
   rename_i t5 e5
   obtain ⟨ρ5,a6,w5,y1,y2,y3,y4,y5,y6⟩:=lh (b:=b) (k:=.inBlock c.lM :: .code (.region c.i6 c.ops6 false) :: .inLoop c.loopBody::k) (cs:=cs) (id:=c.i5) hI e5 x5 x4
   exact ⟨ρ5,a6,w5,.head (stepR_cond (t:=true) (dh x5 _ _ e19).dQ) y1,y2,y3,y4,tr5.keep y3.le y5.size y6 f4,by rw [y6 _ p4];exact a51,y5.get _ _ hb⟩
  ·rename_i e19
   exact ⟨ρ4,a5,w4,.head (stepR_cond (t:=false) (dh x5 _ _ e19).dQ) (.one stepR_skip),rfl,.refl _ _ _ _ rfl,x4,tr5,a51,x5.get _ _ hb⟩
  ·cases hb
 obtain ⟨ρ5,a6,w5,y1,y2,y3,y4,y5,y6,vb,y7,y8⟩:=hbest
 obtain ⟨ρ6,a7,w6,z1,z2,z3,z4,z5,z6⟩:=lh (b:=b) (k:=.inLoop c.loopBody::k) (cs:=cs) (id:=c.i6) hI e6 (y5.CV hc.l11 y6 (.same rfl)) y4
 obtain ⟨v11,b11,b12⟩:=z5.get _ _ e11
 have b11:a7.tmps[c.d11]? = some (.int .i64 (.ofNat (off+1))):=by rw [b11,b12.flat rfl]
 have hst6:Stp ρ h w ρ6 h w6:=(hst5.trans y3).trans z3
 refine ⟨ρ6,a7,w6,hgo.trans (y1.trans (.head stepR_inBlock (z1.trans (.one stepR_inLoop)))),?_,hst6,z4,Ef hst6 hrow,⟨kA,Eg hst6.le z4 hgb hnb⟩,y5.keep z3.le z5.size z6 f5,b11,vb,by rw [z6 _ p7];exact y7,y8.mono z3.le⟩
 rw [z2,y2,x2,r2,← ha3,put_defers,m2,g2]
theorem Bst.rounds (hI:iH P inv) {f:FuncId} (hc:c.OK P f) {n:Nat} {tL:T Value} {h:H} {nb A len:Nat} {el:TypeId} {d r cells:List Value} {first m:Value} {b:Frame} {k:List Item} {cs:List Frame} {ob:Ob} (hgb:h.get nb=some ob)
  (hfree:c.LY tL=true) (hs:∀ i,i<len→c.PL P inv n tL h nb i=true) (hall:∀ u∈cells,∀ b∈first::cells,∃ b2,c.vO P inv n tL h b u=some b2∧b2∈first::cells) (hm:∀ u∈cells,c.vO P inv n tL h m u=some m)
  (hsee:m∈cells→first≠m→∀ b∈first::cells,c.vO P inv n tL h b m=some m):∀ (q dq:List Value) (i:Nat) (bv:Value) (ρ:aY) (a:Act) (w:World),(∀ u∈q,u∈cells)→d.drop i=dq→eQ ρ q dq→bv∈first::cells→(bv=m∨(m∈q∧first≠m))→c.At ρ n tL h nb A el d r w a i bv→i+q.length=len →
  ∃ ρ' a' w',Steps P (lone (b.atR a (.code c.loopBody :: .inLoop c.loopBody::k)) cs w) (lone (b.atR a' (.code c.loopBody :: .inLoop c.loopBody::k)) cs w')∧a'.defers=a.defers∧Stp ρ h w ρ' h w'∧c.At ρ' n tL h nb A el d r w' a' len m
 | [],dq,i,bv,ρ,a,w,_,_,_,_,hbm,hAt,hl=>by
  have hl:i=len:=hl
  subst hl
  rcases hbm with rfl | ⟨h0,_⟩
  ·exact ⟨ρ,a,w,.refl _ _,rfl,.refl _ _ _ _ rfl,hAt⟩
  ·cases h0
 | u::q,dq,i,bv,ρ,a,w,hq,hd,hv,hbv,hbm,hAt,hl=>by
  have hl:i+(q.length+1)=len:=hl
  cases hv with
  | cons hu hv=>
   rename_i u' dq'
   have hdu:d[i]? = some u':=by
    have:(d.drop i)[0]? = some u':=by rw [hd];rfl
    simpa using this
   have hd':d.drop (i+1)=dq':=by rw [←List.drop_drop,hd];rfl
   have huc:u∈cells:=hq u (by simp)
   obtain ⟨b2,hb2,hb2m⟩:=hall u huc bv hbv
   have hnext:b2=m∨(m∈q∧first≠m):=by
    rcases hbm with rfl | ⟨h1,h2⟩
    ·rw [hm u huc] at hb2;exact .inl (Option.some.inj hb2).symm
    ·rcases List.mem_cons.1 h1 with rfl | h1
     ·rw [hsee huc h2 bv hbv] at hb2;exact .inl (Option.some.inj hb2).symm
     ·exact .inr ⟨h1,h2⟩
   obtain ⟨ρ1,a1,w1,g1,g2,g3,g4⟩:=Bst.round (b:=b) (k:=k) (cs:=cs) hI hc hgb hfree (hs i (by omega)) hb2 hAt hdu hu
   obtain ⟨ρ2,a2,w2,k1,k2,k3,k4⟩:=Bst.rounds hI hc (b:=b) (k:=k) (cs:=cs) hgb hfree hs hall hm hsee q dq' (i+1) b2 ρ1 a1 w1 (fun x hx=>hq x (by simp [hx])) hd' (hv.mono g3.le) hb2m hnext g4 (by omega)
   exact ⟨ρ2,a2,w2,g1.trans k1,k2.trans g2,g3.trans k3,k4⟩
theorem Bst.does (hI:iH P inv) (hD:fF P inv) {f:FuncId} (hc:c.OK P f) {args:List Value} {h h':H} {v:Value} (e:c.aG P inv f args h=some (v,h')):aV P f args h v h':=by
 unfold Bst.aG at e
 split at e
 case h_2=>cases e
 rename_i ta eta
 generalize hn:args.length+(c.fn.ntmps - args.length)=n at *
 split at e
 case h_2=>cases e
 rename_i s0 e0
 split at e
 case h_2=>cases e
 rename_i t1 h1 e1
 split at e
 case h_2=>cases e
 rename_i first nb len _ g11 g1 g9
 split at e
 case h_2=>cases e
 rename_i cells elT gnb
 split at e
 case h_2=>cases e
 rename_i m eall efold
 split at e
 case h_2=>cases e
 rename_i x ewin e7
 simp only [Bool.and_eq_true] at eall
 obtain ⟨⟨⟨elen,efree⟩,estep⟩,ehead⟩:=eall
 obtain rfl:=Nat.eq_of_beq_eq_true elen
 unfold Bst.Yt at ewin
 simp only [Bool.and_eq_true,Bool.or_eq_true] at ewin
 obtain ⟨⟨w1,w2⟩,w3⟩:=ewin
 generalize htL:T.put T.deep (T.put T.deep t1 c.d1 none) c.d11 none=tL at *
 have hall:∀ u∈cells,∀ b∈first::cells,∃ b2,c.vO P inv n tL h1 b u=some b2∧b2∈first::cells:=fun u hu b hb=>by
  have:=List.all_eq_true.1 (List.all_eq_true.1 w1 u hu) b hb
  split at this
  ·rename_i b2 e2
   obtain ⟨y,hy,hy2⟩:=List.any_eq_true.1 this
   exact ⟨b2,e2,by rw [iU hy2];exact hy⟩
  ·cases this
 have hm:∀ u∈cells,c.vO P inv n tL h1 m u=some m:=fun u hu=>by
  have:=List.all_eq_true.1 w2 u hu
  split at this
  ·rename_i b2 e2;rw [e2,iU this]
  ·cases this
 have hsee:m∈cells→first≠m→∀ b∈first::cells,c.vO P inv n tL h1 b m=some m:=fun _ hne b hb=>by
  rcases w3 with w3 | w3
  ·exact absurd (iU w3) hne
  ·have:=List.all_eq_true.1 w3.2 b hb
   split at this
   ·rename_i b2 e2;rw [e2,iU this]
   ·cases this
 obtain ⟨n0,r0⟩:=eH hI hD c.c0 _ _ e0
 obtain ⟨n1,r1⟩:=eH hI hD c.c1 _ _ e1
 obtain ⟨n7,r7⟩:=eH hI hD c.c7 _ _ e7
 have nl:=yS e
 simp only at n0 n1 n7
 refine ⟨by omega,c.fn,c.body,hc.ff,hc.fb,hc.fname,fun {ρ args' w} ha hr hu cs=>?_⟩
 let b:Frame:={ (default:Frame) with fn:=f,kind:=.normal }
 have hl:=ha.length
 have henter:Frame.enter P f ⟨args'⟩ .normal=b.atR { tmps:=(⟨args'⟩:Array Value)++Array.replicate (c.fn.ntmps - args.length) undef,defers:=[] } [.code c.body]:=by
  simp [Frame.enter,Frame.atR,hc.ff,hc.fb,b,hl]
  rfl
 rw [henter]
 have hargs:TR ρ n ta ((⟨args'⟩:Array Value)++Array.replicate (c.fn.ntmps - args.length) undef):=by rw [←hn];exact ve eta ha
 have hd0:({ tmps:=(⟨args'⟩:Array Value)++Array.replicate (c.fn.ntmps - args.length) undef,defers:=[] }:Act).defers=[]:=rfl
 have hargs:TR ρ n ta ({ tmps:=(⟨args'⟩:Array Value)++Array.replicate (c.fn.ntmps - args.length) undef,defers:=[] }:Act).tmps:=hargs
 revert hd0 hargs
 generalize ({ tmps:=(⟨args'⟩:Array Value)++Array.replicate (c.fn.ntmps - args.length) undef,defers:=[] }:Act)=a0
 intro hd0 hargs
 obtain ⟨ρ1,a1,v1,q1,q2,q3,q4⟩:=r0 ρ b a0 [.code (.seq (.seq c.c1 (.block c.ry (.loop c.loopBody))) c.c7)] cs w ⟨rfl,rfl,trivial,hargs,by rw [hd0];trivial⟩ hr (hu.sub (Nat.le_refl _) (by show s0.h.next≤h'.next;omega))
 have q1:Steps P _ _:=q1
 obtain ⟨ρ2,a2,v2,p1,p2,p3,p4⟩:=r1 ρ1 b a1 [.code (.block c.ry (.loop c.loopBody)),.code c.c7] cs v1 q4 q3 (((hu.sub n0 (Nat.le_refl _)).step q2 (Nat.le_refl _)).sub (Nat.le_refl _) (by show h1.next≤h'.next;omega))
 have p1:Steps P _ _:=p1
 have hd2:a2.defers=[]:=by
  have:=p4.marks
  cases hdd:a2.defers with
  | nil=>rfl
  | cons y l=>rw [hdd] at this;exact this.elim
 have st2:Stp ρ h w ρ2 h1 v2:=q2.trans p2
 have hu2:gK ρ2 h1.next h'.next:=(hu.sub (Nat.le_trans n0 n1) (Nat.le_refl _)).step st2 (Nat.le_refl _)
 obtain ⟨A,kA,o',o1,o2,o3⟩:=p3.ob nb _ gnb
 obtain ⟨pp,d,r,hperm,rfl,hvs⟩:=o3
 have hl1:TR ρ2 n tL a2.tmps:=by rw [←htL];exact (p4.tmps.less1 hc.l1).less1 hc.l11
 obtain ⟨z11,y1,y2⟩:=p4.tmps.get _ _ g11
 obtain ⟨z1,y3,y4⟩:=p4.tmps.get _ _ g1
 have hAt:c.At ρ2 n tL h1 nb A elT d r v2 a2 0 first:=⟨p3,o2,⟨kA,o1⟩,hl1,by rw [y1,y2.flat rfl],z1,y3,y4⟩
 have hstart:first=m∨(m∈pp∧first≠m):=by
  by_cases h0:first=m
  ·exact .inl h0
  ·refine .inr ⟨?_,h0⟩
   rcases w3 with w3 | w3
   ·exact absurd (iU w3) h0
   ·obtain ⟨y,hy,hy2⟩:=List.any_eq_true.1 w3.1
    rw [←iU hy2]
    exact hperm.mem_iff.1 hy
 have hplen:pp.length=cells.length:=hperm.length_eq.symm
 obtain ⟨ρ3,a3,v3,m1,m2,m3,m4⟩:=Bst.rounds (b:=b) (k:=[.inBlock c.ry,.code c.c7]) (cs:=cs) hI hc gnb efree (fun i hi=>List.all_eq_true.1 estep i (List.mem_range.2 hi)) hall hm hsee pp d 0 first ρ2 a2 v2 (fun u hu=>hperm.mem_iff.2 hu) rfl hvs (by simp) hstart hAt (by omega)
 have hh:c.LM P inv n tL h1 cells.length=some false:=by
  split at ehead
  ·assumption
  ·cases ehead
 unfold Bst.LM at hh
 split at hh
 case h_2=>cases hh
 rename_i t2 e2
 split at hh
 case h_2=>cases hh
 rename_i q eq
 cases hh
 unfold Bst.LY at efree
 simp only [Bool.and_eq_true,Bool.not_eq_true'] at efree
 obtain ⟨⟨⟨⟨⟨⟨⟨⟨⟨⟨⟨f1,_⟩,_⟩,_⟩,_⟩,_⟩,_⟩,_⟩,_⟩,p5⟩,_⟩,_⟩:=efree
 obtain ⟨ρ4,a4,v4,g1',g2',g3',g4',g5',g6'⟩:=lh (b:=b) (k:=.code (.seq (.cond c.c12 .skip (.exit c.ry)) (.seq (.block c.lM c.inner) (.region c.i6 c.ops6 false))) :: .inLoop c.loopBody::[.inBlock c.ry,.code c.c7]) (cs:=cs) (id:=c.i2) hI e2 (m4.tr.CV hc.l11 m4.at11 (.same rfl)) m4.hr
 obtain ⟨zm,ym1,ym2⟩:=m4.at1
 have tr4:TR ρ4 n (T.put T.deep tL c.d1 (some m)) a4.tmps:=(m4.tr.keep g3'.le g5'.size g6' f1).CV hc.l1 (by rw [g6' _ p5];exact ym1) (ym2.mono g3'.le)
 have hd4:a4.defers=[]:=by rw [g2',m2,hd2]
 have st4:Stp ρ h w ρ4 h1 v4:=(st2.trans m3).trans g3'
 have hu4:gK ρ4 h1.next h'.next:=(hu.sub (Nat.le_trans n0 n1) (Nat.le_refl _)).step st4 (Nat.le_refl _)
 have hexit:exitTo c.ry (.code (.seq (.block c.lM c.inner) (.region c.i6 c.ops6 false)) :: .inLoop c.loopBody::[.inBlock c.ry,.code c.c7])=some [.code c.c7]:=by simp [exitTo]
 obtain ⟨ρ5,a5,v5,x1,x2,x3,x4⟩:=r7 ρ4 b a4 [] cs v4 ⟨rfl,rfl,trivial,tr4,by rw [hd4];trivial⟩ g4' (hu4.sub (Nat.le_refl _) (by omega))
 have hgo:Steps P (lone (b.atR a0 [.code c.body]) cs w) (lone (b.atR a4 [.code c.c7]) cs v4):=
  .head stepR_seq (q1.trans (.head stepR_seq (.head stepR_seq (p1.trans (.head stepR_block (.head stepR_loop (m1.trans (.head stepR_seq (g1'.trans (.head stepR_seq (.head (stepR_cond (t:=false) (dh g5' _ _ eq).dQ) (.one (stepR_exit hexit)))))))))))))
 have hret:(∃ id,x.1 = .exit id) ∨ ∃ k0,Steps P (lone (b.atR a4 [.code c.c7]) cs v4) (lone { b.atR a5 k0 with mode:=.returning } cs v5):=by
  obtain ⟨ex,sx⟩:=x
  cases ex with
  | normal=>exact .inr ⟨[],Steps.trans x1 (.one (stepR_end rfl))⟩
  | ret=>obtain ⟨k0,x1⟩:=x1;exact .inr ⟨_,x1.trans (.one (stepR_ret rfl))⟩
  | exit id=>exact .inl ⟨id,rfl⟩
 unfold mO at e
 split at e
 ·cases e
 ·rename_i hne
  obtain ⟨k0,hst⟩:=hret.resolve_left fun ⟨id,h0⟩=>hne id h0
  split at e
  ·rename_i h2 hmk
   split at e
   ·rename_i u hu2'
    cases e
    obtain ⟨w2',j1,j2,j3⟩:=(wV (P:=P) hmk).2 (fr:={ b.atR a5 k0 with mode:=.returning }) (cs:=cs) (fun h0=>by cases h0) rfl x4.marks x3
    obtain ⟨v',l1,l2⟩:=sH x4.tmps j3 hu2'
    exact ⟨ρ5,v',w2',_,(hgo.trans hst).trans j1,rfl,⟨rfl,rfl,rfl,c.fn,hc.ff,l1⟩,(st4.trans x2).trans j2,j3,l2⟩
   ·cases e
  ·cases e
end
end Ev
end Go
end
end
section
section
namespace Go
namespace Ev
variable {P:Program}
mutual
def ZC:Value→List Nat
 | .pointer (some a)=>[a.block]
 | .slice (some a) _ _=>[a.block]
 | .map (some r)=>[r]
 | .func (.yield l) _ _=>[l]
 | .func _ ⟨a⟩ ⟨b⟩=>yR a++yR b
 | .agg ⟨cs⟩ | .tuple ⟨cs⟩=>yR cs
 | _=>[]
def yR:List Value→List Nat
 | []=>[]
 | v::l=>ZC v++yR l
end
def UJ:Ob→List Nat
 | .cells c _ _=>yR c
 | .shut c _=>yR c
 | _=>[]
def reach (h:H):Nat→List Nat→List (Nat × Ob)→List (Nat × Ob)
 | 0,_,acc=>acc
 | k+1,l,acc=>match l with
  | []=>acc
  | b::l=>match acc.any fun p=>Nat.beq p.1 b with
   | true=>reach h k l acc
   | false=>match h.get b with
    | some o=>reach h k (UJ o++l) ((b,o)::acc)
    | none=>reach h k l acc
theorem zT {h:H}:∀ (k:Nat) (l:List Nat) (acc:List (Nat × Ob)),(∀ p∈acc,h.get p.1=some p.2)→∀ p∈reach h k l acc,h.get p.1=some p.2
 | 0,l,acc,ha=>ha
 | k+1,l,acc,ha=>by
  unfold reach
  split
  ·exact ha
  ·split
   ·exact zT k _ _ ha
   ·split
    ·rename_i o ho
     exact zT k _ _ fun p hp=>by
      rcases List.mem_cons.1 hp with rfl | hp
      ·exact ho
      ·exact ha p hp
    ·exact zT k _ _ ha
theorem EM {hk:FuncId→List Value→H→Option (Option (Value × H))} {d:Nat} {f:FuncId} {args:List Value} {kn:List (Nat × Ob)} {nx:Nat} {v:Value} (e:BB P hk d f args kn nx=some v):∀ p∈kn,p.1<top:=by
 unfold BB at e
 split at e
 ·split at e
  ·split at e
   ·rename_i e6
    intro p hp
    have:=List.all_eq_true.1 e6 p hp
    simp only [Bool.and_eq_true,Nat.blt_eq] at this
    exact this.1
   ·cases e
  ·cases e
 ·cases e
abbrev Hook:=FuncId→List Value→H→Option (Option (Value × H))
def U7 (P:Program) (hk:Hook) (d:Nat) (fs:FuncId→Bool):Hook:=fun f args h=>match fs f with
 | true=>match BB P hk d f args (reach h 1000 (yR args) []) h.next with
  | some v=>some (some (v,h))
  | none=>some none
 | false=>none
theorem U6 {hk:Hook} (hH:df P hk) {d:Nat} {fs:FuncId→Bool}:df P (U7 P hk d fs):=fun f args h v h' e=>by
 unfold U7 at e
 split at e
 ·split at e
  ·rename_i u eu
   cases e
   exact (EL hH eu).does (EM eu) fun p hp=>⟨p.2,zT _ _ _ (fun _ h=>by cases h) p hp,.inl rfl⟩
  ·cases e
 ·cases e
def jv (a b:Hook):Hook:=fun f args h=>match a f args h with
 | some r=>some r
 | none=>b f args h
theorem fZ {a b:Hook} (ha:df P a) (hb:df P b):df P (jv a b):=fun f args h v h' e=>by
 unfold jv at e
 split at e
 ·rename_i r hr
  cases e
  exact ha f args h v h' hr
 ·exact hb f args h v h' e
def AY (P:Program) (inv:Iv) (c:Bst) (f0:FuncId):Hook:=fun f args h=>match Nat.beq f f0 with
 | true=>some (c.aG P inv f args h)
 | false=>none
theorem MQ {inv:Iv} {c:Bst} {f0:FuncId} (hI:iH P inv) (hD:fF P inv) (hc:c.OK P f0):df P (AY P inv c f0):=fun f args h v h' e=>by
 unfold AY at e
 split at e
 ·rename_i h0
  obtain rfl:=Nat.eq_of_beq_eq_true h0
  exact Bst.does hI hD hc (Option.some.inj e)
 ·cases e
end Ev
end Go
end
end
section
section
namespace Go
namespace Ev
variable {P:Program}
def jk (P:Program) (f:FuncId) (args:List Value) (kn:List (Nat × Ob)) (nx:Nat) (v:Value) (mk:List (Nat × Ob)) (nx':Nat):Prop:=
 nx≤nx'∧(∃ fn c,P.funcs[f]? = some fn∧fn.body=some c∧(fn.name == "runtime.NumGoroutine")=false) ∧
 ∀ ρ args' w,eQ ρ args args'→HR ρ ⟨ofList kn,0,[]⟩ w→gK ρ nx nx'→Calls P f ⟨args'⟩ w fun e w'=>∃ v' ρ',e = .returned v'∧gJ w'∧(∀ (x:Nat) (o:Obj),w.heap[x]? = some o→w'.heap[x]? = some o) ∧
  (∀ b,(b<nx∨nx'≤b)→ρ' b=ρ b)∧(∀ b x k,nx≤b→b<nx'→ρ' b = .at_ x k→w.heap.size≤x)∧VR ρ' v v' ∧
  (∀ p∈mk,∃ x k o',ρ' p.1 = .at_ x k∧w'.heap[x]? = some o'∧OR ρ' k p.2 o')∧(∀ p∈mk,∀ q∈mk,∀ x k m,ρ' p.1 = .at_ x k→ρ' q.1 = .at_ x m→p.1=q.1)
def OQ (P:Program) (hk:FuncId→List Value→H→Option (Option (Value × H))) (d:Nat) (f:FuncId) (args:List Value) (kn:List (Nat × Ob)) (nx:Nat) (v:Value) (mk:List (Nat × Ob)) (nx':Nat):Bool:=
 match qO P hk d (.func f) args (start kn nx) with
 | some (u,h')=>uz u v&&Nat.beq h'.next nx'&&rH (start kn nx) args&&(kn.all fun p=>OC (start kn nx) p.2)&&(h'.log.all fun b=>Nat.ble nx b)&&(kn.all fun p=>Nat.blt p.1 top&&Nat.blt p.1 nx) &&
  (mk.all fun p=>match h'.get p.1 with | some o=>JM o p.2 | none=>false)
 | none=>false
theorem Vh {hk:FuncId→List Value→H→Option (Option (Value × H))} (hH:df P hk) {d:Nat} {f:FuncId} {args:List Value} {kn:List (Nat × Ob)} {nx:Nat} {v:Value} {mk:List (Nat × Ob)} {nx':Nat} (e:OQ P hk d f args kn nx v mk nx'=true):jk P f args kn nx v mk nx':=by
 unfold OQ at e
 split at e
 case h_2=>cases e
 rename_i u h' ei
 simp only [Bool.and_eq_true] at e
 obtain ⟨⟨⟨⟨⟨⟨e1,e2⟩,e3⟩,e4⟩,e5⟩,e6⟩,e7⟩:=e
 obtain rfl:=iU e1
 obtain rfl:=Nat.eq_of_beq_eq_true e2
 have hF:=reckon hH ei
 have ht:∀ p∈kn,p.1<top∧p.1<nx:=fun p hp=>by have:=List.all_eq_true.1 e6 p hp;simpa only [Bool.and_eq_true,Nat.blt_eq] using this
 obtain ⟨n1,fn,c,q1,q2,q3,_⟩:=id hF
 have n1:nx≤h'.next:=n1
 refine ⟨n1,⟨fn,c,q1,q2,q3⟩,fun ρ args' w ha hr hu=>?_⟩
 have hlow:∀ b,((start kn nx).get b).isSome=true→b<nx:=fun b hb=>by
  obtain ⟨o,ho⟩:=Option.isSome_iff_exists.1 hb
  exact (ht _ (dY (fun p hp=>(ht p hp).1) ho)).2
 have hun:∀ b,nx≤b→part ρ (start kn nx) b = .aT:=fun b hb=>by
  cases hq:((start kn nx).get b).isSome with
  | true=>have:=hlow b hq;omega
  | false=>simp [part,hq]
 have hva:eQ (part ρ (start kn nx)) args args':=ha.part e3
 have hHR:HR (part ρ (start kn nx)) (start kn nx) w:=⟨hr.dH,fun b o hb=>by
  obtain ⟨x,k,o',p1,p2,p3⟩:=hr.ob b o hb
  have hs:((start kn nx).get b).isSome=true:=by rw [hb];rfl
  exact ⟨x,k,o',by rw [gV hs];exact p1,p2,p3.part (List.all_eq_true.1 e4 _ (dY (fun p hp=>(ht p hp).1) hb))⟩,fun b c x k l hb hc hx hy=>by
  rw [gV hb] at hx
  rw [gV hc] at hy
  exact hr.inj b c x k l hb hc hx hy⟩
 refine (hF.calls hva hHR fun b h1 _=>hun b h1).mono ?_
 rintro e w' ⟨v',ρ1,rfl,s1,s2,s3⟩
 obtain ⟨l,l1,l2,l3,l4,l5,l6⟩:=s1.log
 have l1:h'.log=l:=by rw [l1];exact List.append_nil l
 have hlog:∀ b∈l,nx≤b:=fun b hb=>Nat.le_of_ble_eq_true (List.all_eq_true.1 e5 b (by rw [l1];exact hb))
 have hnew:∀ b x k,ρ1 b = .at_ x k→part ρ (start kn nx) b = .at_ x k∨w.heap.size≤x:=fun b x k hb=>by
  rcases l3 b x k hb with h1 | ⟨_,h1 | ⟨c,m,hc,hm⟩⟩
  ·exact .inl h1
  ·exact .inr h1
  ·rw [hun c (hlog c hc)] at hm;cases hm
 let ρ':aY:=fun b=>if nx≤b∧b<h'.next then ρ1 b else ρ b
 have hin:∀ b,nx≤b→b<h'.next→ρ' b=ρ1 b:=fun b h1 h2=>if_pos ⟨h1,h2⟩
 have hout:∀ b,(b<nx∨h'.next≤b)→ρ' b=ρ b:=fun b h1=>if_neg (by omega)
 have hle:Le ρ1 ρ':=fun b=>by
  by_cases hb:nx≤b∧b<h'.next
  ·exact .inr (.inl (hin b hb.1 hb.2))
  ·rw [hout b (by omega)]
   cases hq:((start kn nx).get b).isSome with
   | false=>
    refine .inl (s1.born b (by simp [part,hq]) ?_)
    show b<nx∨h'.next≤b
    omega
   | true=>
    refine .inr (.inl ?_)
    obtain ⟨o,ho⟩:=Option.isSome_iff_exists.1 hq
    obtain ⟨x,k,o',p1,_⟩:=hHR.ob b o ho
    rw [l6 b (fun hb=>by have:=hlog b hb;have:=hlow b hq;omega) (by rw [p1];simp),gV hq]
 have hmk:∀ p∈mk,∃ o,h'.get p.1=some o∧o.Le p.2:=fun p hp=>by
  have:=List.all_eq_true.1 e7 p hp
  split at this
  ·rename_i o ho;exact ⟨o,ho,uV this⟩
  ·cases this
 have hsame:∀ b o,h'.get b=some o→∀ x k,ρ1 b = .at_ x k→ρ' b = .at_ x k:=fun b o hb x k hx=>by
  rcases hle b with h1 | h1 | h1
  ·rw [hx] at h1;cases h1
  ·rw [h1];exact hx
  ·by_cases hr2:nx≤b∧b<h'.next
   ·rw [hin b hr2.1 hr2.2];exact hx
   ·cases hq:((start kn nx).get b).isSome with
    | false=>
     have:=s1.born b (by simp [part,hq]) (by show b<nx∨h'.next≤b;omega)
     rw [hx] at this;cases this
    | true=>
     obtain ⟨o2,ho2⟩:=Option.isSome_iff_exists.1 hq
     obtain ⟨x2,k2,o',p1,_⟩:=hHR.ob b o2 ho2
     have h2:=l6 b (fun hb=>by have:=hlog b hb;have:=hlow b hq;omega) (by rw [p1];simp)
     rw [hout b (by omega),← gV (ρ:=ρ) hq,← h2]
     exact hx
 refine ⟨v',ρ',rfl,s2.dH,fun x o hx=>l2 x o hx fun b k hb e=>?_,hout,fun b x k h1 h2 hx=>?_,s3.mono hle,fun p hp=>?_,fun p hp q hq x k m hx hy=>?_⟩
 ·rw [hun b (hlog b hb)] at e;cases e
 ·rw [hin b h1 h2] at hx
  rcases hnew b x k hx with h3 | h3
  ·rw [hun b h1] at h3;cases h3
  ·exact h3
 ·obtain ⟨o,ho,hol⟩:=hmk p hp
  obtain ⟨x,k,o',p1,p2,p3⟩:=s2.ob _ _ ho
  exact ⟨x,k,o',hsame _ _ ho _ _ p1,p2,hol.or (p3.mono hle)⟩
 ·obtain ⟨o,ho,_⟩:=hmk p hp
  obtain ⟨o2,ho2,_⟩:=hmk q hq
  obtain ⟨x1,k1,_,p1,_⟩:=s2.ob _ _ ho
  obtain ⟨x2,k2,_,p2,_⟩:=s2.ob _ _ ho2
  have g1:=hsame _ _ ho _ _ p1
  have g2:=hsame _ _ ho2 _ _ p2
  rw [hx] at g1
  rw [hy] at g2
  cases g1
  cases g2
  exact s2.inj _ _ _ _ _ (by rw [ho];rfl) (by rw [ho2];rfl) p1 p2
def onto:List (Nat × Ob)→T Ob→T Ob
 | [],t=>t
 | (b,o)::l,t=>T.put T.deep (onto l t) b (some o)
theorem EX {t:T Ob} {b:Nat}:∀ {l:List (Nat × Ob)},(∀ p∈l,p.1<top)→(∀ p∈l,p.1≠b)→(onto l t).get b=t.get b
 | [],_,_=>rfl
 | (c,o)::l,ht,hn=>by
  rw [onto,T.get_put _ _ _ _ _ (aO (ht (c,o) (by simp))),if_neg (Ne.symm (hn (c,o) (by simp)))]
  exact EX (fun p hp=>ht p (by simp [hp])) fun p hp=>hn p (by simp [hp])
theorem qm {t:T Ob} {b:Nat} {o:Ob}:∀ {l:List (Nat × Ob)},(∀ p∈l,p.1<top)→(onto l t).get b=some o→(b,o)∈l∨(t.get b=some o)
 | [],_,h=>.inr h
 | (c,oc)::l,ht,h=>by
  rw [onto,T.get_put _ _ _ _ _ (aO (ht (c,oc) (by simp)))] at h
  split at h
  ·rename_i e;cases h;subst e;exact .inl (by simp)
  ·exact (qm (fun p hp=>ht p (by simp [hp])) h).imp (fun h=>by simp [h]) id
theorem jk.does {f:FuncId} {args:List Value} {kn:List (Nat × Ob)} {nx:Nat} {v:Value} {mk:List (Nat × Ob)} {nx':Nat} (hq:jk P f args kn nx v mk nx') (ht:∀ p∈kn,p.1<top) (hm:∀ p∈mk,p.1<top∧nx≤p.1∧p.1<nx') {h:H} (hn:h.next≤nx)
  (hk:∀ p∈kn,∃ o,h.get p.1=some o∧o.Le p.2):aV P f args h v ⟨onto mk h.t,nx',List.range' nx (nx' - nx)++h.log⟩:=by
 obtain ⟨n1,⟨fn,c,q1,q2,q3⟩,hc⟩:=hq
 refine aV.E5 (Nat.le_trans hn n1) q1 q2 q3 fun {ρ args' w} ha hr hu=>?_
 have hu:gK ρ h.next nx':=hu
 have hr0:HR ρ ⟨ofList kn,0,[]⟩ w:=⟨hr.dH,fun b o hb=>by
  obtain ⟨o1,h1,h2⟩:=hk (b,o) (dY ht hb)
  obtain ⟨x,k,o',p1,p2,p3⟩:=hr.ob b o1 h1
  exact ⟨x,k,o',p1,p2,h2.or p3⟩,fun b c x k l hb hc' hx hy=>by
  obtain ⟨ob,hob⟩:=Option.isSome_iff_exists.1 hb
  obtain ⟨oc,hoc⟩:=Option.isSome_iff_exists.1 hc'
  obtain ⟨o1,h1,_⟩:=hk (b,ob) (dY ht hob)
  obtain ⟨o2,h2,_⟩:=hk (c,oc) (dY ht hoc)
  exact hr.inj b c x k l (by rw [h1];rfl) (by rw [h2];rfl) hx hy⟩
 have hmt:∀ p∈mk,p.1<top:=fun p hp=>(hm p hp).1
 have hrange:∀ b,b∈List.range' nx (nx' - nx)↔nx≤b∧b<nx':=fun b=>by rw [List.mem_range'_1];omega
 refine (hc ρ args' w ha hr0 (hu.sub hn (Nat.le_refl _))).mono ?_
 rintro e w' ⟨v',ρ',rfl,s1,s2,s3,s4,s5,s6,s7⟩
 have hold:∀ b o,h.get b=some o→b<nx∨nx'≤b:=fun b o hb=>by
  obtain ⟨x,k,o',p1,_⟩:=hr.ob b o hb
  by_cases h1:nx≤b∧b<nx'
  ·rw [hu b (Nat.le_trans hn h1.1) h1.2] at p1;cases p1
  ·omega
 have hle:Le ρ ρ':=fun b=>by
  by_cases h1:nx≤b∧b<nx'
  ·exact .inl (hu b (Nat.le_trans hn h1.1) h1.2)
  ·exact .inr (.inl (s3 b (by omega)))
 refine ⟨v',ρ',rfl,⟨hle,Nat.le_trans hn n1,fun b hb hx=>?_,?_,List.range' nx (nx' - nx),rfl,fun x o hx _=>s2 x o hx,fun b x k hb=>?_,fun b hb=>?_,fun b hb=>?_,fun b hb _=>?_⟩,⟨s1,fun b o hb=>?_,fun b d x k l hb hd hx hy=>?_⟩,s5⟩
 ·rw [s3 b (by have hx:b<h.next∨nx'≤b:=hx;omega)];exact hb
 ·rcases Nat.eq_zero_or_pos w.heap.size with h0 | h0
  ·omega
  ·have hlt:w.heap.size - 1<w.heap.size:=by omega
   have:=s2 (w.heap.size - 1) _ (Array.getElem?_eq_getElem hlt)
   have:=(Array.getElem?_eq_some_iff.1 this).1
   omega
 ·by_cases h1:nx≤b∧b<nx'
  ·exact .inr ⟨hu b (Nat.le_trans hn h1.1) h1.2,.inl (s4 b x k h1.1 h1.2 hb)⟩
  ·rw [s3 b (by omega)] at hb;exact .inl hb
 ·have:=(hrange b).1 hb
  exact .inr ⟨by omega,this.2⟩
 ·exact EX hmt fun p hp e=>hb ((hrange b).2 (by have:=hm p hp;omega))
 ·exact s3 b (by have:¬ (nx≤b∧b<nx'):=fun h1=>hb ((hrange b).2 h1);omega)
 ·rcases qm hmt hb with h1 | h1
  ·exact s6 (b,o) h1
  ·obtain ⟨x,k,o',p1,p2,p3⟩:=hr.ob b o h1
   exact ⟨x,k,o',by rw [s3 b (hold b o h1)];exact p1,s2 x o' p2,p3.mono hle⟩
 ·obtain ⟨ob,hob⟩:=Option.isSome_iff_exists.1 hb
  obtain ⟨od,hod⟩:=Option.isSome_iff_exists.1 hd
  have lowB:∀ b o x k,h.get b=some o→ρ' b = .at_ x k→ρ b = .at_ x k∧x<w.heap.size:=fun b o x k hb hx=>by
   rw [s3 b (hold b o hb)] at hx
   exact ⟨hx,hr.lt hb hx⟩
  rcases qm hmt hob with h1 | h1<;>rcases qm hmt hod with h2 | h2
  ·exact s7 (b,ob) h1 (d,od) h2 x k l hx hy
  ·have g1:=hm _ h1
   have:=s4 b x k g1.2.1 g1.2.2 hx
   have:=(lowB d od x l h2 hy).2
   omega
  ·have g1:=hm _ h2
   have:=s4 d x l g1.2.1 g1.2.2 hy
   have:=(lowB b ob x k h1 hx).2
   omega
  ·have h1:h.get b=some ob:=h1
   have h2:h.get d=some od:=h2
   exact hr.inj b d x k l (by rw [h1];rfl) (by rw [h2];rfl) (lowB b ob x k h1 hx).1 (lowB d od x l h2 hy).1
structure Made where
 f:FuncId
 args:List Value
 kn:List (Nat × Ob)
 nx:Nat
 v:Value
 born:List (Nat × Ob)
 nx':Nat
def Made.ok (P:Program) (e:Made):Prop:=jk P e.f e.args e.kn e.nx e.v e.born e.nx'∧(e.kn.all (fun p=>Nat.blt p.1 top)&&e.born.all (fun p=>Nat.blt p.1 top&&Nat.ble e.nx p.1&&Nat.blt p.1 e.nx'))=true
def YM (e:Made) (f:FuncId) (args:List Value) (h:H):Bool:=match Nat.beq e.f f with
 | true=>match Nat.ble h.next e.nx with
  | true=>match lK e.args args with
   | true=>e.kn.all fun p=>match h.get p.1 with
    | some o=>JM o p.2
    | none=>false
   | false=>false
  | false=>false
 | false=>false
def Vr (f:FuncId) (args:List Value) (h:H):List Made→Option (Option (Value × H))
 | []=>none
 | e::es=>match YM e f args h with
  | true=>some (some (e.v,⟨onto e.born h.t,e.nx',List.range' e.nx (e.nx' - e.nx)++h.log⟩))
  | false=>Vr f args h es
def madeOf (es:List Made):FuncId→List Value→H→Option (Option (Value × H)):=fun f args h=>Vr f args h es
theorem RV {es:List Made} (h:∀ e∈es,e.ok P):df P (madeOf es):=by
 intro f args h0 v h' hf
 unfold madeOf at hf
 induction es with
 | nil=>cases hf
 | cons e es ih=>
  simp only [Vr] at hf
  split at hf
  ·rename_i hfit
   simp only [Option.some.injEq,Prod.mk.injEq] at hf
   obtain ⟨rfl,rfl⟩:=hf
   unfold YM at hfit
   split at hfit
   case h_2=>cases hfit
   rename_i h1
   split at hfit
   case h_2=>cases hfit
   rename_i h2
   split at hfit
   case h_2=>cases hfit
   rename_i h3
   obtain ⟨hq,ht⟩:=h e (by simp)
   simp only [Bool.and_eq_true] at ht
   obtain rfl:=Nat.eq_of_beq_eq_true h1
   obtain rfl:=fM h3
   refine hq.does (fun p hp=>by have:=List.all_eq_true.1 ht.1 p hp;simpa [Nat.blt_eq] using this) (fun p hp=>by
    have:=List.all_eq_true.1 ht.2 p hp
    simp only [Bool.and_eq_true,Nat.blt_eq] at this
    exact ⟨this.1.1,Nat.le_of_ble_eq_true this.1.2,this.2⟩) (Nat.le_of_ble_eq_true h2) fun p hp=>by
     have:=List.all_eq_true.1 hfit p hp
     split at this
     ·rename_i o ho;exact ⟨o,ho,uV this⟩
     ·cases this
  ·exact ih (fun e he=>h e (by simp [he])) hf
end Ev
end Go
end
end
section
section
namespace Go
namespace Ev
variable {P:Program}
theorem OR.Y4 {ρ:aY} {k:Nat} {c:List (List Value)} {e:TypeId} {z:Nat} {o:Obj} (h:OR ρ k (.cells c.flatten e (some z)) o):OR ρ k (.lq c e z) o:=by
 obtain ⟨d,r,h1,h2,_,h3⟩:=h
 obtain ⟨h4,h5,h6⟩:=h3 z rfl
 exact ⟨c,d,r,.refl _,h1,h2,h4,h5,h6⟩
theorem OR.KG {ρ:aY} {k:Nat} {c c':List (List Value)} {e:TypeId} {z:Nat} {o:Obj} (hp:c.Perm c') (h:OR ρ k (.lq c e z) o):OR ρ k (.lq c' e z) o:=by
 obtain ⟨p,d,r,h1,h2⟩:=h
 exact ⟨p,d,r,hp.symm.trans h1,h2⟩
def H.as (h:H) (b:Nat) (o:Ob):H:=⟨T.put T.deep h.t b (some o),h.next,h.log⟩
theorem H.VW {h:H} {b:Nat} (hb:b<top) (o:Ob) (y:Nat):(h.as b o).get y=if y=b then some o else h.get y:=T.get_put _ _ _ _ _ (aO hb)
theorem HR.as {ρ:aY} {h:H} {w:World} (hr:HR ρ h w) {b:Nat} {o o2:Ob} (hb:b<top) (hg:h.get b=some o) (ho:∀ x k o',ρ b = .at_ x k→w.heap[x]? = some o'→OR ρ k o o'→OR ρ k o2 o'):HR ρ (h.as b o2) w:=by
 have known:∀ y,((h.as b o2).get y).isSome=true→(h.get y).isSome=true:=fun y hy=>by
  rw [H.VW hb] at hy
  split at hy
  ·rename_i e;rw [e,hg];rfl
  ·exact hy
 refine ⟨hr.dH,fun y oy hy=>?_,fun y y' x k l hy hy' hx hx'=>hr.inj y y' x k l (known y hy) (known y' hy') hx hx'⟩
 rw [H.VW hb] at hy
 split at hy
 ·rename_i e
  cases hy
  subst e
  obtain ⟨x,k,o',h1,h2,h3⟩:=hr.ob _ _ hg
  exact ⟨x,k,o',h1,h2,ho x k o' h1 h2 h3⟩
 ·exact hr.ob y oy hy
end Ev
end Go
end
end
section
section
namespace Go
namespace Ev
variable {P:Program}
theorem Stp.KN {ρ ρ':aY} {h h' h2:H} {w w':World} (s:Stp ρ h w ρ' h' w') {l L:List Nat} (hl:h'.log=l++h.log) (hL:h2.log=L++h.log) (hn:h'.next≤h2.next) (hsub:∀ b∈l,b∈L)
  (hin:∀ b∈L,(h.get b).isSome=true∨(h.next≤b∧b<h2.next)) (hget:∀ b,b∉L→h2.get b=h.get b):Stp ρ h w ρ' h2 w':=by
 obtain ⟨l0,e,f,o,t,g,k⟩:=s.log
 obtain rfl:l0=l:=List.append_cancel_right (e.symm.trans hl)
 refine ⟨s.le,Nat.le_trans s.next hn,fun b hb hx=>s.born b hb (hx.imp id fun h=>Nat.le_trans hn h),s.size,L,hL,fun x ox hx hm=>f x ox hx fun b m hb=>hm b m (hsub b hb),fun b x m hb=>?_,hin,hget,fun b hb=>k b fun h=>hb (hsub b h)⟩
 rcases o b x m hb with h | ⟨h,h' | ⟨c,z,hc,hz⟩⟩
 ·exact .inl h
 ·exact .inr ⟨h,.inl h'⟩
 ·exact .inr ⟨h,.inr ⟨c,z,hsub c hc,hz⟩⟩
theorem Stp.yz {ρ ρ':aY} {t:T Ob} {nx:Nat} {h':H} {w w':World} (s:Stp ρ ⟨t,nx,[]⟩ w ρ' h' w') (L:List Nat):Stp ρ ⟨t,nx,L⟩ w ρ' ⟨h'.t,h'.next,h'.log++L⟩ w':=by
 obtain ⟨l0,e,f,o,t',g,k⟩:=s.log
 have e:h'.log=l0:=by rw [e];exact List.append_nil l0
 subst e
 exact ⟨s.le,s.next,s.born,s.size,h'.log,rfl,f,o,t',g,k⟩
theorem Stp.Zy {ρ ρ':aY} {t:T Ob} {nx:Nat} {L:List Nat} {h':H} {w w':World} (s:Stp ρ ⟨t,nx,L⟩ w ρ' h' w') {l:List Nat} (hl:h'.log=l++L):Stp ρ ⟨t,nx,[]⟩ w ρ' ⟨h'.t,h'.next,l⟩ w':=by
 obtain ⟨l0,e,f,o,t',g,k⟩:=s.log
 obtain rfl:l0=l:=List.append_cancel_right (e.symm.trans hl)
 exact ⟨s.le,s.next,s.born,s.size,l0,by simp,f,o,t',g,k⟩
theorem HR.yz {ρ:aY} {t:T Ob} {nx nx':Nat} {l l':List Nat} {w:World} (h:HR ρ ⟨t,nx,l⟩ w):HR ρ ⟨t,nx',l'⟩ w:=⟨h.dH,h.ob,h.inj⟩
def kX:List (Nat × Ob)→T Ob→T Ob
 | [],t=>t
 | p::ms,t=>T.put T.deep (kX ms t) p.1 (some p.2)
theorem Fq {ms:List (Nat × Ob)} (ht:∀ p∈ms,p.1<top) {t:T Ob} {b:Nat} {o:Ob} (h:(kX ms t).get b=some o):(b,o)∈ms∨((∀ p∈ms,p.1≠b)∧t.get b=some o):=by
 induction ms with
 | nil=>exact .inr ⟨fun _ h=>by simp at h,h⟩
 | cons p ms ih=>
  rw [kX,T.get_put _ _ _ _ _ (aO (ht p (by simp)))] at h
  split at h
  ·rename_i e;cases h;subst e;exact .inl (by simp)
  ·rename_i e
   rcases ih (fun q hq=>ht q (by simp [hq])) h with h1 | ⟨h1,h2⟩
   ·exact .inl (by simp [h1])
   ·exact .inr ⟨fun q hq=>by
     rcases List.mem_cons.1 hq with rfl | hq
     ·exact fun e'=>e e'.symm
     ·exact h1 q hq,h2⟩
theorem Fp {ms:List (Nat × Ob)} (ht:∀ p∈ms,p.1<top) {t:T Ob} {b:Nat} (h:∀ p∈ms,p.1≠b):(kX ms t).get b=t.get b:=by
 induction ms with
 | nil=>rfl
 | cons p ms ih=>
  rw [kX,T.get_put _ _ _ _ _ (aO (ht p (by simp))),if_neg fun e=>h p (by simp) e.symm]
  exact ih (fun q hq=>ht q (by simp [hq])) fun q hq=>h q (by simp [hq])
def Ob.YX (o p:Ob):Prop:=∀ ρ k x,OR ρ k o x→OR ρ k p x
theorem Ob.YX.refl (o:Ob):o.YX o:=fun _ _ _ h=>h
theorem Ob.Le.leq {o p:Ob} (h:o.Le p):o.YX p:=fun _ _ _ hx=>h.or hx
theorem HR.mods {ρ ρ0:aY} {h0 h:H} {w0 w:World} {TB:List Nat} {ms:List (Nat × Ob)} {nx hi:Nat} (hr:HR ρ h w) (ht:∀ p∈ms,p.1<top) (hms:∀ p∈ms,∃ o,h.get p.1=some o∧o.YX p.2) (hTB:∀ b∈TB,∃ p∈ms,p.1=b)
  (hr0:HR ρ0 h0 w0) (hu0:gK ρ0 h0.next hi) (hnx:nx≤hi) (hsame:∀ b,b∉TB→(b<h0.next∨nx≤b)→h.get b=h0.get b):HR ρ ⟨kX ms h0.t,nx,TB++List.range' h0.next (nx - h0.next)⟩ w:=by
 have key:∀ b o,(kX ms h0.t).get b=some o→∃ o1,h.get b=some o1∧o1.YX o:=fun b o hb=>by
  rcases Fq ht hb with h1 | ⟨h1,h2⟩
  ·exact hms _ h1
  ·have hb0:h0.get b=some o:=h2
   refine ⟨o,?_,.refl o⟩
   rw [hsame b (fun hT=>by obtain ⟨p,hp,e⟩:=hTB b hT;exact h1 p hp e) ?_]
   ·exact hb0
   ·obtain ⟨x,k,o',q1,_⟩:=hr0.ob b o hb0
    by_cases hlt:h0.next≤b∧b<nx
    ·rw [hu0 b hlt.1 (by omega)] at q1;cases q1
    ·omega
 refine ⟨hr.dH,fun b o hb=>?_,fun b c x k l hb hc hx hy=>?_⟩
 ·obtain ⟨o1,h1,h2⟩:=key b o hb
  obtain ⟨x,k,o',q1,q2,q3⟩:=hr.ob b o1 h1
  exact ⟨x,k,o',q1,q2,h2 _ _ _ q3⟩
 ·obtain ⟨ob,hob⟩:=Option.isSome_iff_exists.1 hb
  obtain ⟨oc,hoc⟩:=Option.isSome_iff_exists.1 hc
  obtain ⟨o1,h1,_⟩:=key b ob hob
  obtain ⟨o2,h2,_⟩:=key c oc hoc
  exact hr.inj b c x k l (by rw [h1];rfl) (by rw [h2];rfl) hx hy
structure Cst where
 ms:List (Nat × Ob)
 nx:Nat
 t:T Value
def Cst.h (s:Cst) (h0:H) (TB:List Nat):H:=⟨kX s.ms h0.t,s.nx,TB++List.range' h0.next (s.nx - h0.next)⟩
def Cst.h0 (s:Cst) (h0:H):H:=⟨kX s.ms h0.t,s.nx,[]⟩
def Cst.okB (s:Cst) (h0:H) (TB:List Nat):Bool:=
 (s.ms.all fun p=>Nat.blt p.1 top&&(TB.any (fun b=>Nat.beq b p.1) || (Nat.ble h0.next p.1&&Nat.blt p.1 s.nx)))&&(TB.all fun b=>(h0.get b).isSome&&s.ms.any fun p=>Nat.beq p.1 b)&&Nat.ble h0.next s.nx
structure Cst.OK (s:Cst) (h0:H) (TB:List Nat):Prop where
 low:∀ p∈s.ms,p.1<top
 mem:∀ p∈s.ms,p.1∈TB∨(h0.next≤p.1∧p.1<s.nx)
 known:∀ b∈TB,(h0.get b).isSome=true
 told:∀ b∈TB,∃ p∈s.ms,p.1=b
 next:h0.next≤s.nx
theorem Cst.YB {s:Cst} {h0:H} {TB:List Nat} (h:s.okB h0 TB=true):s.OK h0 TB:=by
 unfold Cst.okB at h
 simp only [Bool.and_eq_true] at h
 obtain ⟨⟨h1,h2⟩,h3⟩:=h
 refine ⟨fun p hp=>?_,fun p hp=>?_,fun b hb=>?_,fun b hb=>?_,Nat.le_of_ble_eq_true h3⟩
 ·have:=List.all_eq_true.1 h1 p hp
  simp only [Bool.and_eq_true,Nat.blt_eq] at this
  exact this.1
 ·have:=List.all_eq_true.1 h1 p hp
  simp only [Bool.and_eq_true,Bool.or_eq_true,Nat.blt_eq] at this
  rcases this.2 with h | h
  ·obtain ⟨b,hb,e⟩:=List.any_eq_true.1 h
   rw [←Nat.eq_of_beq_eq_true e];exact .inl hb
  ·exact .inr ⟨Nat.le_of_ble_eq_true h.1,h.2⟩
 ·have:=List.all_eq_true.1 h2 b hb
  simp only [Bool.and_eq_true] at this
  exact this.1
 ·have:=List.all_eq_true.1 h2 b hb
  simp only [Bool.and_eq_true] at this
  obtain ⟨p,hp,e⟩:=List.any_eq_true.1 this.2
  exact ⟨p,hp,Nat.eq_of_beq_eq_true e⟩
def Cst.yG (leq:Ob→Ob→Bool) (s':Cst) (h0:H) (TB:List Nat) (h':H):Bool:=
 (s'.ms.all fun p=>match h'.get p.1 with
  | some o=>leq o p.2
  | none=>false)&&(h'.log.all fun b=>TB.any (fun c=>Nat.beq c b) || (Nat.ble h0.next b&&Nat.blt b h'.next))&&Nat.ble h'.next s'.nx
structure Cst.Ba (s':Cst) (h0:H) (TB:List Nat) (h':H):Prop where
 ms:∀ p∈s'.ms,∃ o,h'.get p.1=some o∧o.YX p.2
 log:∀ b∈h'.log,b∈TB∨(h0.next≤b∧b<h'.next)
 next:h'.next≤s'.nx
theorem Cst.pK {leq:Ob→Ob→Bool} (hl:∀ o p,leq o p=true→o.YX p) {s':Cst} {h0:H} {TB:List Nat} {h':H} (h:s'.yG leq h0 TB h'=true):s'.Ba h0 TB h':=by
 unfold Cst.yG at h
 simp only [Bool.and_eq_true] at h
 obtain ⟨⟨h1,h2⟩,h3⟩:=h
 refine ⟨fun p hp=>?_,fun b hb=>?_,Nat.le_of_ble_eq_true h3⟩
 ·have:=List.all_eq_true.1 h1 p hp
  split at this
  ·rename_i o ho;exact ⟨o,ho,hl _ _ this⟩
  ·cases this
 ·have:=List.all_eq_true.1 h2 b hb
  simp only [Bool.or_eq_true,Bool.and_eq_true,Nat.blt_eq] at this
  rcases this with h | h
  ·obtain ⟨c,hc,e⟩:=List.any_eq_true.1 h
   rw [←Nat.eq_of_beq_eq_true e];exact .inl hc
  ·exact .inr ⟨Nat.le_of_ble_eq_true h.1,h.2⟩
structure Cst.At (s:Cst) (ρ0:aY) (h0:H) (w0:World) (TB:List Nat) (ρ:aY) (w:World):Prop where
 TM:Stp ρ0 ⟨h0.t,h0.next,[]⟩ w0 ρ (s.h h0 TB) w
 hr:HR ρ (s.h0 h0) w
theorem Cst.oQ {s:Cst} {h0:H} {TB:List Nat} {b:Nat} (hn:h0.next≤s.nx):b∈TB++List.range' h0.next (s.nx - h0.next)↔b∈TB∨(h0.next≤b∧b<s.nx):=by
 rw [List.mem_append,List.mem_range'_1]
 constructor
 ·exact Or.imp id fun h=>by omega
 ·exact Or.imp id fun h=>by omega
theorem Cst.mW {s:Cst} {h0:H} {TB:List Nat} (ok:s.OK h0 TB) {b:Nat} (hb:b∉TB) (hx:b<h0.next∨s.nx≤b):(kX s.ms h0.t).get b=h0.t.get b:=
 Fp ok.low fun p hp e=>by
  subst e
  rcases ok.mem p hp with h | h
  ·exact hb h
  ·omega
theorem Cst.At.step {s s':Cst} {ρ0 ρ ρ':aY} {h0 h':H} {w0 w w':World} {TB:List Nat} {hi:Nat} (A:s.At ρ0 h0 w0 TB ρ w) (ok:s.OK h0 TB) (ok':s'.OK h0 TB) (hr0:HR ρ0 h0 w0) (hu:gK ρ0 h0.next hi) (hhi:s'.nx≤hi)
  (st:Stp ρ (s.h0 h0) w ρ' h' w') (hr:HR ρ' h' w') (tk:s'.Ba h0 TB h'):s'.At ρ0 h0 w0 TB ρ' w':=by
 have n1:s.nx≤h'.next:=st.next
 have e0:∃ l,h'.log=l∧∀ b,b∉l→h'.get b=(s.h0 h0).get b:=by
  obtain ⟨l,e,_,_,_,g,_⟩:=st.log
  exact ⟨l,by rw [e];exact List.append_nil l,g⟩
 obtain ⟨l,e0,g0⟩:=e0
 have hget:∀ b,b∉TB→(b<h0.next∨s'.nx≤b)→h'.get b=h0.get b:=fun b hb hx=>by
  rw [g0 b fun hl=>?_]
  ·exact Cst.mW ok hb (by have:=tk.next;omega)
  ·rcases tk.log b (by rw [e0];exact hl) with h | h
   ·exact hb h
   ·have:=tk.next;omega
 refine ⟨?_,(hr.mods ok'.low tk.ms ok'.told hr0 hu hhi hget).yz⟩
 have B:=st.yz (TB++List.range' h0.next (s.nx - h0.next))
 have T:=A.TM.trans B
 refine T.KN (h2:=s'.h h0 TB) (l:=h'.log++(TB++List.range' h0.next (s.nx - h0.next))) (L:=TB++List.range' h0.next (s'.nx - h0.next)) (by simp) (by simp [Cst.h]) tk.next (fun b hb=>?_) (fun b hb=>?_) fun b hb=>?_
 ·rw [Cst.oQ ok'.next]
  have:=tk.next
  rcases List.mem_append.1 hb with h | h
  ·rcases tk.log b h with h | h
   ·exact .inl h
   ·exact .inr (by omega)
  ·rcases (Cst.oQ ok.next).1 h with h | h
   ·exact .inl h
   ·exact .inr (by omega)
 ·rcases (Cst.oQ ok'.next).1 hb with h | h
  ·exact .inl (ok'.known b h)
  ·exact .inr h
 ·have hb':¬ (b∈TB∨(h0.next≤b∧b<s'.nx)):=fun h=>hb ((Cst.oQ ok'.next).2 h)
  exact Cst.mW ok' (fun h=>hb' (.inl h)) (by
   by_cases h:h0.next≤b∧b<s'.nx
   ·exact absurd (.inr h) hb'
   ·omega)
theorem Cst.Ba.known {s s':Cst} {ρ0 ρ ρ':aY} {h0 h':H} {w0 w w':World} {TB:List Nat} {hi:Nat} (tk:s'.Ba h0 TB h') (ok:s.OK h0 TB) (ok':s'.OK h0 TB) (hr0:HR ρ0 h0 w0) (hu:gK ρ0 h0.next hi) (hhi:s'.nx≤hi) (st:Stp ρ (s.h0 h0) w ρ' h' w') :
  ∀ b,((s'.h0 h0).get b).isSome=true→(h'.get b).isSome=true:=fun b hb=>by
 obtain ⟨o,ho⟩:=Option.isSome_iff_exists.1 hb
 have ho:(kX s'.ms h0.t).get b=some o:=ho
 rcases Fq ok'.low ho with h1 | ⟨h1,h2⟩
 ·obtain ⟨o1,q1,_⟩:=tk.ms _ h1
  rw [q1];rfl
 ·have hb0:h0.get b=some o:=h2
  have hT:b∉TB:=fun hT=>by obtain ⟨p,hp,e⟩:=ok'.told b hT;exact h1 p hp e
  obtain ⟨x,k,o',q1,_⟩:=hr0.ob b o hb0
  have hx:b<h0.next∨s'.nx≤b:=by
   by_cases hlt:h0.next≤b∧b<s'.nx
   ·rw [hu b hlt.1 (by omega)] at q1;cases q1
   ·omega
  obtain ⟨l,e,_,_,_,g,_⟩:=st.log
  have e0:h'.log=l:=by rw [e];exact List.append_nil l
  have n1:s.nx≤h'.next:=st.next
  have n2:=tk.next
  rw [g b fun hl=>?_]
  ·have:=Cst.mW ok hT (show b<h0.next∨s.nx≤b by omega)
   have this:(s.h0 h0).get b=h0.get b:=this
   rw [this,hb0];rfl
  ·rcases tk.log b (by rw [e0];exact hl) with h | h
   ·exact hT h
   ·omega
theorem Cst.At.start {s':Cst} {ρ0 ρ:aY} {h0 h':H} {w0 w:World} {TB:List Nat} {hi:Nat} (ok':s'.OK h0 TB) (hr0:HR ρ0 h0 w0) (hu:gK ρ0 h0.next hi) (hhi:s'.nx≤hi) (st:Stp ρ0 ⟨h0.t,h0.next,[]⟩ w0 ρ h' w) (hr:HR ρ h' w) (tk:s'.Ba h0 TB h'):s'.At ρ0 h0 w0 TB ρ w:=by
 obtain ⟨l,e,_,_,_,g,_⟩:=id st.log
 have e0:h'.log=l:=by rw [e];exact List.append_nil l
 have hget:∀ b,b∉TB→(b<h0.next∨s'.nx≤b)→h'.get b=h0.get b:=fun b hb hx=>g b fun hl=>by
  rcases tk.log b (by rw [e0];exact hl) with h | h
  ·exact hb h
  ·have:=tk.next;omega
 refine ⟨?_,(hr.mods ok'.low tk.ms ok'.told hr0 hu hhi hget).yz⟩
 refine st.KN (h2:=s'.h h0 TB) (l:=h'.log) (L:=TB++List.range' h0.next (s'.nx - h0.next)) (by simp) (by simp [Cst.h]) tk.next (fun b hb=>?_) (fun b hb=>?_) fun b hb=>?_
 ·rw [Cst.oQ ok'.next]
  have:=tk.next
  rcases tk.log b hb with h | h
  ·exact .inl h
  ·exact .inr (by omega)
 ·rcases (Cst.oQ ok'.next).1 hb with h | h
  ·exact .inl (ok'.known b h)
  ·exact .inr h
 ·have hb':¬ (b∈TB∨(h0.next≤b∧b<s'.nx)):=fun h=>hb ((Cst.oQ ok'.next).2 h)
  exact Cst.mW ok' (fun h=>hb' (.inl h)) (by
   by_cases h:h0.next≤b∧b<s'.nx
   ·exact absurd (.inr h) hb'
   ·omega)
theorem Cst.At.QL {s:Cst} {ρ0 ρ:aY} {h0:H} {w0 w:World} {TB:List Nat} {hi:Nat} (A:s.At ρ0 h0 w0 TB ρ w) (ok:s.OK h0 TB) (hu:gK ρ0 h0.next hi):gK ρ s.nx hi:=fun b h1 h2=>A.TM.born b (hu b (Nat.le_trans ok.next h1) h2) (.inr h1)
end Ev
end Go
end
end
section
namespace Go
namespace Ev
def jC:Operand→Operand→Bool
 | .tmp a,y=>match y with | .tmp b=>Nat.beq a b | _=>false
 | .const v,y=>match y with | .const u=>uz v u | _=>false
 | .global a,y=>match y with | .global b=>Nat.beq a b | _=>false
 | .func a,y=>match y with | .func b=>Nat.beq a b | _=>false
theorem jc {x y:Operand} (h:jC x y=true):x=y:=by
 cases x<;>cases y<;>simp only [jC] at h<;>first | (cases h;done) | (rw [Nat.eq_of_beq_eq_true h]) | (rw [iU h])
def eqL {α:Type} (f:α→α→Bool):List α→List α→Bool
 | [],m=>match m with | []=>true | _=>false
 | a::l,m=>match m with | b::m=>f a b&&eqL f l m | []=>false
theorem VC {α:Type} {f:α→α→Bool} (hf:∀ a b,f a b=true→a=b):∀ {l m:List α},eqL f l m=true→l=m
 | [],m,h=>by cases m<;>simp [eqL] at h;rfl
 | a::l,m,h=>by
  cases m with
  | nil=>simp [eqL] at h
  | cons b m=>
   simp only [eqL,Bool.and_eq_true] at h
   rw [hf _ _ h.1,VC hf h.2]
def O3 {α:Type} (f:α→α→Bool) (a b:Array α):Bool:=eqL f a.toList b.toList
theorem yg {α:Type} {f:α→α→Bool} (hf:∀ a b,f a b=true→a=b) {a b:Array α} (h:O3 f a b=true):a=b:=by
 apply Array.ext'
 exact VC hf h
def OX (x y:Nat × Operand):Bool:=Nat.beq x.1 y.1&&jC x.2 y.2
theorem SH (x y:Nat × Operand) (h:OX x y=true):x=y:=by
 unfold OX at h
 simp only [Bool.and_eq_true] at h
 exact Prod.ext (Nat.eq_of_beq_eq_true h.1) (jc h.2)
theorem BK (a b:Nat) (h:Nat.beq a b=true):a=b:=Nat.eq_of_beq_eq_true h
def F5:Callee→Callee→Bool
 | .value f,y=>match y with | .value g=>jC f g | _=>false
 | .builtin .append,y=>match y with | .builtin .append=>true | _=>false
 | .builtin .len,y=>match y with | .builtin .len=>true | _=>false
 | _,_=>false
theorem Md {x y:Callee} (h:F5 x y=true):x=y:=by
 unfold F5 at h
 split at h
 ·split at h
  ·rw [jc h]
  ·cases h
 ·split at h
  ·rfl
  ·cases h
 ·split at h
  ·rfl
  ·cases h
 ·cases h
def O1 (x y:Call):Bool:=F5 x.callee y.callee&&O3 jC x.args y.args&&O3 Nat.beq x.argTypes y.argTypes
theorem SN {x y:Call} (h:O1 x y=true):x=y:=by
 obtain ⟨a,b,c⟩:=x
 obtain ⟨a',b',c'⟩:=y
 unfold O1 at h
 simp only [Bool.and_eq_true] at h
 rw [Md h.1.1,yg (fun _ _=>jc) h.1.2,yg BK h.2]
def eqOp:Op→Op→Bool
 | .move x,o=>match o with | .move y=>jC x y | _=>false
 | .assign x,o=>match o with | .assign y=>jC x y | _=>false
 | .alloc t,o=>match o with | .alloc u=>Nat.beq t u | _=>false
 | .box t x,o=>match o with | .box u y=>Nat.beq t u&&jC x y | _=>false
 | .buildSlice t n ps,o=>match o with | .buildSlice u m qs=>Nat.beq t u&&Nat.beq n m&&O3 OX ps qs | _=>false
 | .load t x,o=>match o with | .load u y=>Nat.beq t u&&jC x y | _=>false
 | .store t x v,o=>match o with | .store u y w=>Nat.beq t u&&jC x y&&jC v w | _=>false
 | .extract x i,o=>match o with | .extract y j=>jC x y&&Nat.beq i j | _=>false
 | .fieldAddr t x i,o=>match o with | .fieldAddr u y j=>Nat.beq t u&&jC x y&&Nat.beq i j | _=>false
 | .field t x i,o=>match o with | .field u y j=>Nat.beq t u&&jC x y&&Nat.beq i j | _=>false
 | .indexAddr t x i,o=>match o with | .indexAddr u y j=>Nat.beq t u&&jC x y&&jC i j | _=>false
 | .call c,o=>match o with | .call d=>O1 c d | _=>false
 | _,_=>false
theorem X0 {x y:Op} (h:eqOp x y=true):x=y:=by
 cases x<;>simp only [eqOp] at h<;>try (cases h;done)
 all_goals
  split at h
  ·try simp only [Bool.and_eq_true] at h
   first
    | rw [jc h]
    | rw [Nat.eq_of_beq_eq_true h]
    | rw [SN h]
    | rw [Nat.eq_of_beq_eq_true h.1,jc h.2]
    | rw [jc h.1,Nat.eq_of_beq_eq_true h.2]
    | rw [Nat.eq_of_beq_eq_true h.1.1,Nat.eq_of_beq_eq_true h.1.2,yg SH h.2]
    | rw [Nat.eq_of_beq_eq_true h.1.1,jc h.1.2,jc h.2]
    | rw [Nat.eq_of_beq_eq_true h.1.1,jc h.1.2,Nat.eq_of_beq_eq_true h.2]
  ·cases h
def O0 (x y:Edge):Bool:=Nat.beq x.on y.on&&decide (x.ground=y.ground)
theorem SL (x y:Edge) (h:O0 x y=true):x=y:=by
 obtain ⟨a,b⟩:=x
 obtain ⟨c,d⟩:=y
 unfold O0 at h
 simp only [Bool.and_eq_true,decide_eq_true_eq] at h
 obtain ⟨h1,rfl⟩:=h
 rw [Nat.eq_of_beq_eq_true h1]
def eqGuard:Option (Nat × Bool)→Option (Nat × Bool)→Bool
 | none,y=>match y with | none=>true | some _=>false
 | some (a,b),y=>match y with | some (c,d)=>Nat.beq a c&&(b==d) | none=>false
theorem OZ {x y:Option (Nat × Bool)} (h:eqGuard x y=true):x=y:=by
 unfold eqGuard at h
 split at h
 ·split at h
  ·rfl
  ·cases h
 ·split at h
  ·simp only [Bool.and_eq_true,beq_iff_eq] at h
   obtain ⟨h1,rfl⟩:=h
   rw [Nat.eq_of_beq_eq_true h1]
  ·cases h
def OY (x y:Oper):Bool:=SK x.dst y.dst&&eqOp x.op y.op&&Nat.beq x.type y.type&&decide (x.pos=y.pos)&&O3 O0 x.after y.after&&eqGuard x.guard y.guard
theorem SI (x y:Oper) (h:OY x y=true):x=y:=by
 obtain ⟨a1,a2,a3,a4,a5,a6⟩:=x
 obtain ⟨b1,b2,b3,b4,b5,b6⟩:=y
 unfold OY at h
 simp only [Bool.and_eq_true,decide_eq_true_eq] at h
 obtain ⟨⟨⟨⟨⟨h1,h2⟩,h3⟩,rfl⟩,h5⟩,h6⟩:=h
 rw [DV h1,X0 h2,Nat.eq_of_beq_eq_true h3,yg SL h5,OZ h6]
def gX:Code→Code→Bool
 | .skip,d=>match d with | .skip=>true | _=>false
 | .ret,d=>match d with | .ret=>true | _=>false
 | .exit i,d=>match d with | .exit j=>Nat.beq i j | _=>false
 | .region i ops b,d=>match d with | .region j ops' b'=>Nat.beq i j&&O3 OY ops ops'&&(b==b') | _=>false
 | .seq a b,d=>match d with | .seq a' b'=>gX a a'&&gX b b' | _=>false
 | .cond c a b,d=>match d with | .cond c' a' b'=>jC c c'&&gX a a'&&gX b b' | _=>false
 | .block i a,d=>match d with | .block j b=>Nat.beq i j&&gX a b | _=>false
 | _,_=>false
theorem mY:∀ {x y:Code},gX x y=true→x=y
 | .skip,y,h=>by cases y<;>simp [gX] at h;rfl
 | .ret,y,h=>by cases y<;>simp [gX] at h;rfl
 | .exit i,y,h=>by cases y<;>simp [gX] at h;rw [h]
 | .region i ops b,y,h=>by
  cases y<;>simp only [gX] at h<;>try (cases h;done)
  simp only [Bool.and_eq_true,beq_iff_eq] at h
  obtain ⟨⟨h1,h2⟩,rfl⟩:=h
  rw [Nat.eq_of_beq_eq_true h1,yg SI h2]
 | .seq a b,y,h=>by
  cases y<;>simp only [gX] at h<;>try (cases h;done)
  simp only [Bool.and_eq_true] at h
  rw [mY h.1,mY h.2]
 | .cond c a b,y,h=>by
  cases y<;>simp only [gX] at h<;>try (cases h;done)
  simp only [Bool.and_eq_true] at h
  rw [jc h.1.1,mY h.1.2,mY h.2]
 | .block i a,y,h=>by
  cases y<;>simp only [gX] at h<;>try (cases h;done)
  simp only [Bool.and_eq_true] at h
  rw [Nat.eq_of_beq_eq_true h.1,mY h.2]
 | .loop _,_,h=>by simp [gX] at h
 | .rangeFunc ..,_,h=>by simp [gX] at h
 | .scope _,_,h=>by simp [gX] at h
 | .label _,_,h=>by simp [gX] at h
 | .goto _,_,h=>by simp [gX] at h
 | .refuse _,_,h=>by simp [gX] at h
def je {α β:Type} (f:α→β→Bool):T α→T β→Bool
 | _,.nil=>true
 | t,.node v l r=>(match v with
  | none=>true
  | some b=>match t.val? with
   | some a=>f a b
   | none=>false)&&je f t.left l&&je f t.right r
theorem yH {α β:Type} {f:α→β→Bool}:∀ {t:T α} {u:T β} {k:Nat} {b:β},je f t u=true→u.get k=some b→∃ a,t.get k=some a∧f a b=true
 | _,.nil,k,b,_,h=>by cases h
 | t,.node v l r,0,b,h,hb=>by
  simp only [je,Bool.and_eq_true] at h
  have hb:v=some b:=hb
  subst hb
  have:=h.1.1
  simp only at this
  split at this
  ·rename_i a ha;exact ⟨a,by rw [T.qG];exact ha,this⟩
  ·cases this
 | t,.node v l r,n+1,b,h,hb=>by
  simp only [je,Bool.and_eq_true] at h
  rcases Nat.mod_two_eq_zero_or_one n with hn | hn
  ·rw [T.jB _ _ hn] at hb
   obtain ⟨a,h1,h2⟩:=yH h.1.2 hb
   exact ⟨a,by rw [T.jB _ _ hn];exact h1,h2⟩
  ·rw [T.lJ _ _ hn] at hb
   obtain ⟨a,h1,h2⟩:=yH h.2 hb
   exact ⟨a,by rw [T.lJ _ _ hn];exact h1,h2⟩
theorem TR.je {ρ:aY} {n:Nat} {t u:T Value} {a:Array Value} (h:TR ρ n t a) (e:je uz t u=true):TR ρ n u a:=⟨h.size,fun i v hv=>by
 obtain ⟨v',h1,h2⟩:=yH e hv
 obtain rfl:=iU h2
 exact h.get i _ h1⟩
def T.meet {α β:Type}:T α→T β→T α
 | .nil,_=>.nil
 | .node v l r,t=>.node (match t.val? with | some _=>v | none=>none) (T.meet l t.left) (T.meet r t.right)
def takeB {α:Type} (f:α→α→Bool) (a:α):List α→Option (List α)
 | []=>none
 | b::l=>match f b a with
  | true=>some l
  | false=>match takeB f a l with
   | some r=>some (b::r)
   | none=>none
theorem Ed {α:Type} {f:α→α→Bool} (hf:∀ a b,f a b=true→a=b) {a:α}:∀ {l r:List α},takeB f a l=some r→l.Perm (a::r)
 | [],r,h=>by cases h
 | b::l,r,h=>by
  simp only [takeB] at h
  split at h
  ·rename_i e;cases h;rw [hf _ _ e]
  ·split at h
   ·rename_i r' e;cases h;exact (List.Perm.cons b (Ed hf e)).trans (List.Perm.swap a b r')
   ·cases h
def vJ {α:Type} (f:α→α→Bool):List α→List α→Bool
 | l,[]=>match l with | []=>true | _=>false
 | l,a::m=>match takeB f a l with
  | some r=>vJ f r m
  | none=>false
theorem kE {α:Type} {f:α→α→Bool} (hf:∀ a b,f a b=true→a=b):∀ {l m:List α},vJ f l m=true→l.Perm m
 | l,[],h=>by cases l<;>simp [vJ] at h;exact .refl _
 | l,a::m,h=>by
  simp only [vJ] at h
  split at h
  ·rename_i r e;exact (Ed hf e).trans (.cons a (kE hf h))
  ·cases h
theorem xg (a b:List Value) (h:lK a b=true):a=b:=fM h
def eqST:LoopState→LoopState→Bool
 | .ready,y=>match y with | .ready=>true | _=>false
 | .busy,y=>match y with | .busy=>true | _=>false
 | _,_=>false
theorem XZ {x y:LoopState} (h:eqST x y=true):x=y:=by
 cases x<;>cases y<;>simp [eqST] at h<;>rfl
def Oz:Ob→Ob→Bool
 | .half c q e z,p=>match p with
  | .half c' q' e' z'=>lK c c'&&vJ lK q q'&&Nat.beq e e'&&Nat.beq z z'
  | .cells c' e' (some z')=>lK c c'&&(match q with | []=>true | _=>false)&&Nat.beq e e'&&Nat.beq z z'
  | .lq c' e' z'=>(match c with | []=>true | _=>false)&&vJ lK q c'&&Nat.beq e e'&&Nat.beq z z'
  | _=>false
 | .lq c e z,p=>match p with
  | .lq c' e' z'=>vJ lK c c'&&Nat.beq e e'&&Nat.beq z z'
  | _=>false
 | .loop s j f t n ps as b d,p=>match p with
  | .loop s' j' f' t' n' ps' as' b' d'=>eqST s s'&&(match j,j' with | none,none=>true | _,_=>false)&&Nat.beq f f'&&je uz t t'&&Nat.beq n n'&&O3 Nat.beq ps ps'&&gX as as'&&gX b b'&&Nat.beq d d'
  | _=>false
 | .calls a,p=>match p with | .calls b=>a==b | _=>false
 | .cells c e s,p=>match p with
  | .lq c' e' z'=>(match s with | some z=>lK c c'.flatten&&Nat.beq e e'&&Nat.beq z z' | none=>false)
  | p=>JM (.cells c e s) p
 | o,p=>JM o p
theorem qA (o p:Ob) (h:Oz o p=true):o.YX p:=by
 intro ρ k x hx
 unfold Oz at h
 split at h
 ·split at h
  ·simp only [Bool.and_eq_true] at h
   obtain ⟨⟨⟨h1,h2⟩,h3⟩,h4⟩:=h
   obtain rfl:=fM h1
   obtain rfl:=Nat.eq_of_beq_eq_true h3
   obtain rfl:=Nat.eq_of_beq_eq_true h4
   obtain ⟨p,d,d2,r,q1,q2⟩:=hx
   exact ⟨p,d,d2,r,(kE xg h2).symm.trans q1,q2⟩
  ·simp only [Bool.and_eq_true] at h
   obtain ⟨⟨⟨h1,h2⟩,h3⟩,h4⟩:=h
   obtain rfl:=fM h1
   obtain rfl:=Nat.eq_of_beq_eq_true h3
   obtain rfl:=Nat.eq_of_beq_eq_true h4
   obtain ⟨p,d,d2,r,q1,rfl,q3,q4,q5,q6,q7⟩:=hx
   exact ⟨d,d2++r,rfl,q3,(fun h=>by cases h),fun z hz=>by cases hz;exact ⟨q5,q6,q7⟩⟩
  ·simp only [Bool.and_eq_true] at h
   obtain ⟨⟨⟨h1,h2⟩,h3⟩,h4⟩:=h
   obtain rfl:=Nat.eq_of_beq_eq_true h3
   obtain rfl:=Nat.eq_of_beq_eq_true h4
   split at h1
   ·obtain ⟨p,d,d2,r,q1,rfl,q3,q4,q5,q6,q7⟩:=hx
    cases q3
    exact ⟨p,d2,r,(kE xg h2).symm.trans q1,rfl,q4,by simpa using q5,q6,q7⟩
   ·cases h1
  ·cases h
 ·split at h
  ·simp only [Bool.and_eq_true] at h
   obtain ⟨⟨h1,h3⟩,h4⟩:=h
   obtain rfl:=Nat.eq_of_beq_eq_true h3
   obtain rfl:=Nat.eq_of_beq_eq_true h4
   exact OR.KG (kE xg h1) hx
  ·cases h
 ·split at h
  ·simp only [Bool.and_eq_true] at h
   obtain ⟨⟨⟨⟨⟨⟨⟨⟨h1,h2⟩,h3⟩,h4⟩,h5⟩,h6⟩,h7⟩,h8⟩,h9⟩:=h
   obtain rfl:=XZ h1
   obtain rfl:=Nat.eq_of_beq_eq_true h3
   obtain rfl:=Nat.eq_of_beq_eq_true h5
   obtain rfl:=Nat.eq_of_beq_eq_true h9
   obtain rfl:=yg BK h6
   obtain rfl:=mY h7
   obtain rfl:=mY h8
   split at h2
   ·obtain ⟨tm,d',q1,q2,q3⟩:=hx
    exact ⟨tm,d',q1,q2.je h4,q3⟩
   ·cases h2
  ·cases h
 ·split at h
  ·simp only [beq_iff_eq] at h
   subst h
   exact hx
  ·cases h
 ·split at h
  ·split at h
   ·simp only [Bool.and_eq_true] at h
    obtain ⟨⟨h1,h3⟩,h4⟩:=h
    obtain rfl:=fM h1
    obtain rfl:=Nat.eq_of_beq_eq_true h3
    obtain rfl:=Nat.eq_of_beq_eq_true h4
    exact OR.Y4 hx
   ·cases h
  ·exact (uV h).or hx
 ·exact (uV h).or hx
end Ev
end Go
end
section
section
namespace Go
namespace Ev
variable {P:Program} {inv:Iv}
theorem uS {f:FuncId} {fn:Func} {c:Code} {t:T Value} {x:Ex × St} {args:List Value} {h h':H} {v:Value} (hf:P.funcs[f]? = some fn) (hb:fn.body=some c) (hname:(fn.name == "runtime.NumGoroutine")=false) (ht:qI 0 args .nil=some t)
  (hR:rP P f (args.length+(fn.ntmps - args.length)) none c ⟨t,h,[]⟩ x) (e:mO P fn x=some (v,h')):aV P f args h v h':=by
 obtain ⟨n1,h1⟩:=hR
 have n2:=yS e
 simp only at n1
 refine ⟨by omega,fn,c,hf,hb,hname,fun {ρ args' w} ha hr hu cs=>?_⟩
 let b:Frame:={ (default:Frame) with fn:=f,kind:=.normal }
 have hl:=ha.length
 have henter:Frame.enter P f ⟨args'⟩ .normal=b.atR { tmps:=(⟨args'⟩:Array Value)++Array.replicate (fn.ntmps - args.length) undef,defers:=[] } [.code c]:=by
  simp [Frame.enter,Frame.atR,hf,hb,b,hl]
  rfl
 rw [henter]
 obtain ⟨ρ1,a1,w1,q1,q2,q3,q4⟩:=h1 ρ b { tmps:=(⟨args'⟩:Array Value)++Array.replicate (fn.ntmps - args.length) undef,defers:=[] } [] cs w ⟨rfl,rfl,trivial,ve ht ha,trivial⟩ hr (by rw [←n2];exact hu)
 have hret:(∃ id,x.1 = .exit id) ∨ ∃ k0,Steps P (lone (b.atR { tmps:=(⟨args'⟩:Array Value)++Array.replicate (fn.ntmps - args.length) undef,defers:=[] } [.code c]) cs w) (lone { b.atR a1 k0 with mode:=.returning } cs w1):=by
  obtain ⟨ex,sx⟩:=x
  cases ex with
  | normal=>exact .inr ⟨[],Steps.trans q1 (.one (stepR_end rfl))⟩
  | ret=>obtain ⟨k0,q1⟩:=q1;exact .inr ⟨_,q1.trans (.one (stepR_ret rfl))⟩
  | exit id=>exact .inl ⟨id,rfl⟩
 unfold mO at e
 split at e
 ·cases e
 ·rename_i hne
  obtain ⟨k0,hst⟩:=hret.resolve_left fun ⟨id,h0⟩=>hne id h0
  split at e
  ·rename_i h2 hm
   split at e
   ·rename_i u hu2
    cases e
    obtain ⟨w2,p1,p2,p3⟩:=(wV (P:=P) hm).2 (fr:={ b.atR a1 k0 with mode:=.returning }) (cs:=cs) (fun h0=>by cases h0) rfl q4.marks q3
    obtain ⟨v',r1,r2⟩:=sH q4.tmps p3 hu2
    exact ⟨ρ1,v',w2,_,hst.trans p1,rfl,⟨rfl,rfl,rfl,fn,hf,r1⟩,q2.trans p2,p3,r2⟩
   ·cases e
  ·cases e
def takes {α:Type}:List α→List (α × List α)
 | []=>[]
 | x::l=>(x,l)::(takes l).map fun p=>(p.1,x::p.2)
theorem Ia {α:Type} (x:α):∀ (s t:List α),(x,s++t)∈takes (s++x::t)
 | [],t=>by simp [takes]
 | y::s,t=>by
  show (x,y::(s++t))∈(y,s++x::t)::(takes (s++x::t)).map fun p=>(p.1,y::p.2)
  exact List.mem_cons_of_mem _ (List.mem_map.2 ⟨_,Ia x s t,rfl⟩)
theorem OR.Ap {ρ:aY} {k:Nat} {c:List Value} {q:List (List Value)} {e:TypeId} {z:Nat} {o:Obj} (h:OR ρ k (.half c q e z) o) (hq:q≠[]):∃ x q',(x,q')∈takes q∧OR ρ k (.half (c++x) q' e z) o:=by
 obtain ⟨p,d,d2,r,h1,rfl,h3,h4,h5,h6⟩:=h
 cases p with
 | nil=>exact absurd (List.perm_nil.1 h1) hq
 | cons x p=>
  obtain ⟨s,t,rfl⟩:=List.append_of_mem (h1.mem_iff.2 (List.mem_cons_self ..))
  have h7:(s++t).Perm p:=List.Perm.cons_inv (List.perm_middle.symm.trans h1)
  have h4':eQ ρ (x++p.flatten) d2:=h4
  obtain ⟨dx,dp,rfl,hx,hp⟩:∃ dx dp,d2=dx++dp∧eQ ρ x dx∧eQ ρ p.flatten dp:=by
   refine ⟨d2.take x.length,d2.drop x.length,(List.take_append_drop _ _).symm,?_,?_⟩
   ·have:=h4'.take x.length
    simpa using this
   ·have:=h4'.drop x.length
    simpa using this
  exact ⟨x,s++t,Ia x s t,p,d++dx,dp,r,h7,by simp,h3.append hx,hp,by simpa using h5,h6⟩
theorem OR.TG {ρ:aY} {k:Nat} {c:List (List Value)} {e:TypeId} {z:Nat} {o:Obj} (h:OR ρ k (.lq c e z) o):OR ρ k (.half [] c e z) o:=by
 obtain ⟨p,d,r,h1,rfl,h3,h4⟩:=h
 exact ⟨p,[],d,r,h1,rfl,.nil,h3,by simpa using h4⟩
theorem Cst.At.known {s s2:Cst} {ρ0 ρ:aY} {h0:H} {w0 w:World} {TB:List Nat} (A:s.At ρ0 h0 w0 TB ρ w) (ok2:s2.OK h0 TB) (hn:s2.nx=s.nx) (hr:HR ρ (s2.h0 h0) w):s2.At ρ0 h0 w0 TB ρ w:=by
 refine ⟨?_,hr⟩
 refine A.TM.KN (h2:=s2.h h0 TB) (l:=TB++List.range' h0.next (s.nx - h0.next)) (L:=TB++List.range' h0.next (s2.nx - h0.next)) (by simp [Cst.h]) (by simp [Cst.h]) (by show s.nx≤s2.nx;omega) (fun b hb=>by rw [hn];exact hb) (fun b hb=>?_) fun b hb=>?_
 ·rcases (Cst.oQ ok2.next).1 hb with h | h
  ·exact .inl (ok2.known b h)
  ·exact .inr h
 ·have hb':¬ (b∈TB∨(h0.next≤b∧b<s2.nx)):=fun h=>hb ((Cst.oQ ok2.next).2 h)
  exact Cst.mW ok2 (fun h=>hb' (.inl h)) (by
   by_cases h:h0.next≤b∧b<s2.nx
   ·exact absurd (.inr h) hb'
   ·omega)
structure bI where
 fn:Func
 c0:Code
 ry:Nat
 lb:Code
def bI.body (c:bI):Code:=.seq c.c0 (.block c.ry (.loop c.lb))
structure bI.OK (P:Program) (c:bI) (f:FuncId):Prop where
 ff:P.funcs[f]? = some c.fn
 fb:c.fn.body=some c.body
 fname:(c.fn.name == "runtime.NumGoroutine")=false
abbrev Pre:=List Value × List (List Value)
section
variable (P:Program) (inv:Iv) (c:bI) (f:FuncId) (n:Nat) (h:H) (nb:Nat) (e:TypeId) (z:Nat)
def bI.st (p:Pre) (nx:Nat) (t:T Value):Cst:=⟨[(nb,.half p.1 p.2 e z)],nx,t⟩
def bI.yx (t:T Value) (nx:Nat) (pre:List Value):List (List Value × List (List Value))→Option (List (T Value × H × List (List Value)))
 | []=>some []
 | (x,q)::l=>match fQ P inv f n none c.lb ⟨t,⟨T.put T.deep h.t nb (some (.half (pre++x) q e z)),nx,[]⟩,[]⟩ with
  | some (.normal,⟨t',h',[]⟩)=>match yx t nx pre l with
   | some r=>some ((t',h',q)::r)
   | none=>none
  | _=>none
def bI.outs (t:T Value) (nx:Nat):List Pre→Option (List (T Value × H × List (List Value)))
 | []=>some []
 | (pre,q)::l=>match q,bI.yx P inv c f n h nb e z t nx pre (takes q),bI.outs t nx l with
  | _::_,some a,some b=>some (a++b)
  | _,_,_=>none
def bI.fresh:List (T Value × H × List (List Value))→List Pre→Option (List Pre)
 | [],acc=>some acc
 | (_,h',q)::l,acc=>match h'.get nb with
  | some (.half pre' _ _ _)=>match acc.any (fun p=>lK p.1 pre') with
   | true=>bI.fresh l acc
   | false=>bI.fresh l ((pre',q)::acc)
  | _=>none
def P9:List (T Value × H × List (List Value))→Nat→Nat
 | [],m=>m
 | y::l,m=>match Nat.ble y.2.1.next m with
  | true=>P9 l m
  | false=>P9 l y.2.1.next
def bI.Qv (st':List Pre) (t':T Value) (nx':Nat) (os:List (T Value × H × List (List Value))):Bool:=
 os.all fun y=>je uz y.1 t'&&st'.any fun p=>(bI.st nb e z p nx' t').yG Oz h [nb] y.2.1
def bI.Fg (t:T Value) (nx:Nat) (o:T Value × H × List (List Value)) (os:List (T Value × H × List (List Value))) (st':List Pre) (nx':Nat) (t':T Value):Option (List Pre × T Value × Nat):=
 match bI.Qv h nb e z st' t' nx' (o::os),Nat.ble nx nx' with
 | true,true=>some (st',t',nx')
 | _,_=>none
def bI.UI (t:T Value) (nx:Nat) (sts:List Pre):Option (List Pre × T Value × Nat):=
 match bI.outs P inv c f n h nb e z t nx sts with
 | some (o::os)=>match bI.fresh nb (o::os) [] with
  | some st'=>bI.Fg h nb e z t nx o os st' (P9 (o::os) nx) (T.meet o.1 t)
  | none=>none
 | _=>none
def bI.LQ:Nat→List Pre→T Value→Nat→Option (List Value × T Value × Nat)
 | 0,sts,t,nx=>match sts with
  | [(pre,[])]=>some (pre,t,nx)
  | _=>none
 | k+1,sts,t,nx=>match bI.UI P inv c f n h nb e z t nx sts with
  | some (sts',t',nx')=>bI.LQ k sts' t' nx'
  | none=>none
end
section
variable {c:bI} {f:FuncId} {n:Nat} {h:H} {nb:Nat} {e:TypeId} {z:Nat}
theorem bI.pG {t:T Value} {nx:Nat} {pre:List Value}:∀ {l:List (List Value × List (List Value))} {r:List (T Value × H × List (List Value))},bI.yx P inv c f n h nb e z t nx pre l=some r→∀ x q,(x,q)∈l →
  ∃ t' h',fQ P inv f n none c.lb ⟨t,⟨T.put T.deep h.t nb (some (.half (pre++x) q e z)),nx,[]⟩,[]⟩=some (.normal,⟨t',h',[]⟩)∧(t',h',q)∈r
 | [],r,hr,x,q,hx=>by simp at hx
 | (y,p)::l,r,hr,x,q,hx=>by
  simp only [bI.yx] at hr
  split at hr
  ·rename_i t' h' e1
   split at hr
   ·rename_i r' e2
    cases hr
    rcases List.mem_cons.1 hx with h1 | h1
    ·cases h1
     exact ⟨t',h',e1,List.mem_cons_self ..⟩
    ·obtain ⟨t2,h2,q1,q2⟩:=bI.pG e2 x q h1
     exact ⟨t2,h2,q1,List.mem_cons_of_mem _ q2⟩
   ·cases hr
  ·cases hr
theorem bI.qj {t:T Value} {nx:Nat}:∀ {l:List Pre} {r:List (T Value × H × List (List Value))},bI.outs P inv c f n h nb e z t nx l=some r→∀ p∈l,p.2≠[]∧∀ x q,(x,q)∈takes p.2 →
  ∃ t' h',fQ P inv f n none c.lb ⟨t,⟨T.put T.deep h.t nb (some (.half (p.1++x) q e z)),nx,[]⟩,[]⟩=some (.normal,⟨t',h',[]⟩)∧(t',h',q)∈r
 | [],r,hr,p,hp=>by simp at hp
 | (pre,q0)::l,r,hr,p,hp=>by
  simp only [bI.outs] at hr
  split at hr
  ·rename_i q1 q2 a b e2 e1
   cases hr
   rcases List.mem_cons.1 hp with h1 | h1
   ·subst h1
    refine ⟨by simp,fun x q hx=>?_⟩
    obtain ⟨t',h',g1,g2⟩:=bI.pG e1 x q hx
    exact ⟨t',h',g1,List.mem_append_left _ g2⟩
   ·obtain ⟨g0,g⟩:=bI.qj e2 p h1
    refine ⟨g0,fun x q hx=>?_⟩
    obtain ⟨t',h',g1,g2⟩:=g x q hx
    exact ⟨t',h',g1,List.mem_append_right _ g2⟩
  ·cases hr
theorem bI.wC {p:Pre} {nx:Nat} {t:T Value} (hb:nb<top) (hk:(h.get nb).isSome=true) (hn:h.next≤nx):(bI.st nb e z p nx t).OK h [nb]:=by
 refine ⟨fun q hq=>?_,fun q hq=>?_,fun b hb'=>?_,fun b hb'=>?_,hn⟩
 ·obtain rfl:=List.mem_singleton.1 hq;exact hb
 ·obtain rfl:=List.mem_singleton.1 hq;exact .inl (by simp)
 ·obtain rfl:=List.mem_singleton.1 hb';exact hk
 ·obtain rfl:=List.mem_singleton.1 hb';exact ⟨_,List.mem_singleton.2 rfl,rfl⟩
theorem bI.OM:∀ {k:Nat} {sts:List Pre} {t tF:T Value} {nx nxF:Nat} {pre:List Value},bI.LQ P inv c f n h nb e z k sts t nx=some (pre,tF,nxF)→nx≤nxF
 | 0,sts,t,tF,nx,nxF,pre,hg=>by
  simp only [bI.LQ] at hg
  split at hg
  ·cases hg;exact Nat.le_refl _
  ·cases hg
 | k+1,sts,t,tF,nx,nxF,pre,hg=>by
  simp only [bI.LQ] at hg
  split at hg
  ·rename_i sts' t' nx' e1
   refine Nat.le_trans ?_ (bI.OM hg)
   unfold bI.UI at e1
   split at e1
   ·split at e1
    ·unfold bI.Fg at e1
     split at e1
     ·rename_i h1 h2
      cases e1
      exact Nat.le_of_ble_eq_true h2
     ·cases e1
    ·cases e1
   ·cases e1
  ·cases hg
set_option maxHeartbeats 1000000 in
theorem bI.go_ok (hI:iH P inv) (hD:fF P inv) (hb:nb<top) (hk:(h.get nb).isSome=true) {ρ0:aY} {w0:World} {hi:Nat} (hr0:HR ρ0 h w0) (hu:gK ρ0 h.next hi) {b:Frame} {kk:List Item} {cs:List Frame} :
  ∀ (k:Nat) (sts:List Pre) (t tF:T Value) (nx nxF:Nat) (pre:List Value),bI.LQ P inv c f n h nb e z k sts t nx=some (pre,tF,nxF)→h.next≤nx→nxF≤hi→∀ p∈sts,∀ (ρ:aY) (a:Act) (w:World),(bI.st nb e z p nx t).At ρ0 h w0 [nb] ρ w →
   Sits ρ f n none ⟨t,(bI.st nb e z p nx t).h0 h,[]⟩ b a →
   ∃ ρ' a' w',Steps P (lone (b.atR a (.code c.lb :: .inLoop c.lb::kk)) cs w) (lone (b.atR a' (.code c.lb :: .inLoop c.lb::kk)) cs w')∧(bI.st nb e z (pre,[]) nxF tF).At ρ0 h w0 [nb] ρ' w'∧Sits ρ' f n none ⟨tF,(bI.st nb e z (pre,[]) nxF tF).h0 h,[]⟩ b a'
 | 0,sts,t,tF,nx,nxF,pre,hg,hnx,hhi,p,hp,ρ,a,w,A,hs=>by
  simp only [bI.LQ] at hg
  split at hg
  ·rename_i pre0
   cases hg
   obtain rfl:=List.mem_singleton.1 hp
   exact ⟨ρ,a,w,.refl _ _,A,hs⟩
  ·cases hg
 | k+1,sts,t,tF,nx,nxF,pre,hg,hnx,hhi,p,hp,ρ,a,w,A,hs=>by
  simp only [bI.LQ] at hg
  split at hg
  case h_2=>cases hg
  rename_i sts' t' nx' e1
  have hle:=bI.OM hg
  unfold bI.UI at e1
  split at e1
  case h_2=>cases e1
  rename_i o os eo
  split at e1
  case h_2=>cases e1
  rename_i st' ef
  unfold bI.Fg at e1
  split at e1
  case h_2=>cases e1
  rename_i hall hble
  generalize hnm:P9 (o::os) nx=nm at *
  generalize htm:T.meet o.1 t=tm at *
  cases e1
  have hble:=Nat.le_of_ble_eq_true hble
  obtain ⟨hq0,hout⟩:=bI.qj eo p hp
  have okp:=bI.wC (e:=e) (z:=z) (p:=p) (t:=t) hb hk hnx
  have hgp:((bI.st nb e z p nx t).h0 h).get nb=some (.half p.1 p.2 e z):=by
   show (kX _ h.t).get nb=_
   simp only [bI.st,kX]
   rw [T.get_put _ _ _ _ _ (aO hb),if_pos rfl]
  obtain ⟨x0,k0,o',g1,g2,g3⟩:=A.hr.ob nb _ hgp
  obtain ⟨x,q,hxq,g4⟩:=g3.Ap hq0
  obtain ⟨t2,h2,hc,hmem⟩:=hout x q hxq
  have okx:=bI.wC (e:=e) (z:=z) (p:=(p.1++x,q)) (t:=t) hb hk hnx
  have hrx:HR ρ ((bI.st nb e z (p.1++x,q) nx t).h0 h) w:=by
   have hgx:∀ y,((bI.st nb e z (p.1++x,q) nx t).h0 h).get y=if y=nb then some (.half (p.1++x) q e z) else h.get y:=fun y=>by
    show (kX _ h.t).get y=_
    simp only [bI.st,kX]
    exact T.get_put _ _ _ _ _ (aO hb)
   have hgo:∀ y,((bI.st nb e z p nx t).h0 h).get y=if y=nb then some (.half p.1 p.2 e z) else h.get y:=fun y=>by
    show (kX _ h.t).get y=_
    simp only [bI.st,kX]
    exact T.get_put _ _ _ _ _ (aO hb)
   have known:∀ y,(((bI.st nb e z (p.1++x,q) nx t).h0 h).get y).isSome=true→(((bI.st nb e z p nx t).h0 h).get y).isSome=true:=fun y hy=>by
    rw [hgx] at hy
    rw [hgo]
    split at hy
    ·rename_i ey;rw [if_pos ey];rfl
    ·rename_i ey;rw [if_neg ey];exact hy
   refine ⟨A.hr.dH,fun y oy hy=>?_,fun y y' m l l' h1 h2 h3 h4=>A.hr.inj y y' m l l' (known y h1) (known y' h2) h3 h4⟩
   rw [hgx] at hy
   split at hy
   ·rename_i ey
    cases hy
    subst ey
    exact ⟨x0,k0,o',g1,g2,g4⟩
   ·rename_i ey
    exact A.hr.ob y oy (by rw [hgo,if_neg ey];exact hy)
  have Ax:=A.known okx rfl hrx
  obtain ⟨m1,hR⟩:=eH hI hD c.lb _ _ hc
  have m1:nx≤h2.next:=m1
  have hty:=List.all_eq_true.1 (show (o::os).all _=true from hall) _ hmem
  simp only [Bool.and_eq_true] at hty
  obtain ⟨hsub,hany⟩:=hty
  obtain ⟨p',hp',htk⟩:=List.any_eq_true.1 hany
  have tk:=Cst.pK qA htk
  have ok':=bI.wC (e:=e) (z:=z) (p:=p') (nx:=nx') (t:=t') hb hk (Nat.le_trans hnx hble)
  have hh2:h2.next≤nx':=tk.next
  have hux:gK ρ nx hi:=A.QL okp hu
  obtain ⟨ρ1,a1,w1,r1,r2,r3,r4⟩:=hR ρ b a (.inLoop c.lb::kk) cs w ⟨hs.DT,hs.kind,hs.DJ,hs.tmps,hs.marks⟩ hrx (hux.sub (Nat.le_refl _) (by show h2.next≤hi;omega))
  have r1:Steps P _ _:=r1
  have A':=Ax.step okx ok' hr0 hu (Nat.le_trans hle hhi) r2 r3 tk
  have hs':Sits ρ1 f n none ⟨t',(bI.st nb e z p' nx' t').h0 h,[]⟩ b a1:=⟨r4.DT,r4.kind,r4.DJ,r4.tmps.je hsub,r4.marks⟩
  obtain ⟨ρ2,a2,w2,s1,s2,s3⟩:=bI.go_ok hI hD hb hk hr0 hu (b:=b) (kk:=kk) (cs:=cs) k sts' t' tF nx' nxF pre hg (Nat.le_trans hnx hble) hhi p' hp' ρ1 a1 w1 A' hs'
  exact ⟨ρ2,a2,w2,r1.trans (.head stepR_inLoop s1),s2,s3⟩
def bI.O7 (h:H) (nb:Nat) (e:TypeId) (z:Nat) (pre:List Value) (nxE:Nat):H:=⟨T.put T.deep h.t nb (some (.cells pre e (some z))),nxE,nb::List.range' h.next (nxE - h.next)++h.log⟩
def bI.aG (P:Program) (inv:Iv) (c:bI) (f:FuncId) (args:List Value) (h:H):Option (Value × H):=
 match args with
 | .slice (some ⟨nb,0,none⟩) len _::_=>match h.get nb,qI 0 args .nil,Nat.blt nb top with
  | some (.lq q e z),some ta,true=>match fQ P inv f (args.length+(c.fn.ntmps - args.length)) none c.c0 ⟨ta,⟨h.t,h.next,[]⟩,[]⟩ with
   | some (.normal,⟨t0,h0,[]⟩)=>match h0.log,Nat.beq h0.next h.next,bI.LQ P inv c f (args.length+(c.fn.ntmps - args.length)) h nb e z (len - 1) ((takes q).map fun p=>(p.1,p.2)) t0 h.next with
    | [],true,some (pre,tF,nxF)=>match fQ P inv f (args.length+(c.fn.ntmps - args.length)) none c.lb ⟨tF,⟨T.put T.deep h.t nb (some (.half pre [] e z)),nxF,[]⟩,[]⟩ with
     | some (.exit i,⟨t2,h2,[]⟩)=>match Nat.beq i c.ry,(Cst.mk [(nb,.cells pre e (some z))] h2.next t2).yG Oz h [nb] h2,(match q with | []=>false | _=>true) with
      | true,true,true=>mO P c.fn (.normal,⟨t2,bI.O7 h nb e z pre h2.next,[]⟩)
      | _,_,_=>none
     | _=>none
    | _,_,_=>none
   | _=>none
  | _,_,_=>none
 | _=>none
set_option maxHeartbeats 1000000 in
theorem bI.does (hI:iH P inv) (hD:fF P inv) {c:bI} {f:FuncId} (hc:c.OK P f) {args:List Value} {h h':H} {v:Value} (ev:c.aG P inv f args h=some (v,h')):aV P f args h v h':=by
 unfold bI.aG at ev
 split at ev
 case h_2=>cases ev
 rename_i nb len cap rest
 split at ev
 case h_2=>cases ev
 rename_i q e z ta hg hta hb
 rw [Nat.blt_eq] at hb
 generalize hargs:(Value.slice (some ⟨nb,0,none⟩) len cap::rest)=args at *
 split at ev
 case h_2=>cases ev
 rename_i t0 h0 e0
 split at ev
 case h_2=>cases ev
 rename_i pre tF nxF hl0 hn0 ego
 split at ev
 case h_2=>cases ev
 rename_i i t2 h2 ex
 split at ev
 case h_2=>cases ev
 rename_i hbid htk hq0
 have hn0:=Nat.eq_of_beq_eq_true hn0
 obtain rfl:=Nat.eq_of_beq_eq_true hbid
 have tk:=Cst.pK qA htk
 have hk:(h.get nb).isSome=true:=by rw [hg];rfl
 have hq:q≠[]:=by
  intro e1
  subst e1
  cases hq0
 obtain ⟨m0,r0⟩:=eH hI hD c.c0 _ _ e0
 obtain ⟨mx,rx⟩:=eH hI hD c.lb _ _ ex
 have mx:nxF≤h2.next:=mx
 have hle:=bI.OM ego
 refine uS (x:=(.normal,⟨t2,bI.O7 h nb e z pre h2.next,[]⟩)) hc.ff hc.fb hc.fname hta ⟨by show h.next≤h2.next;omega,fun ρ b a k cs w hs hr hu=>?_⟩ ev
 have hu:gK ρ h.next h2.next:=hu
 have hr':HR ρ ⟨h.t,h.next,[]⟩ w:=⟨hr.dH,hr.ob,hr.inj⟩
 obtain ⟨ρ1,a1,w1,q1,q2,q3,q4⟩:=r0 ρ b a (.code (.block c.ry (.loop c.lb))::k) cs w ⟨hs.DT,hs.kind,hs.DJ,hs.tmps,hs.marks⟩ hr' (hu.sub (Nat.le_refl _) (by show h0.next≤h2.next;omega))
 have q1:Steps P _ _:=q1
 obtain ⟨l0,eL,_,_,_,hget,_⟩:=id q2.log
 have eL:h0.log=l0++[]:=eL
 rw [hl0] at eL
 have hl0':l0=[]:=by simpa using eL.symm
 subst hl0'
 have hget:∀ y,h0.get y=h.get y:=fun y=>hget y (by simp)
 have hgnb:h0.get nb=some (.lq q e z):=by rw [hget];exact hg
 obtain ⟨x0,k0,o',g1,g2,g3⟩:=q3.ob nb _ hgnb
 obtain ⟨x,q',hxq,g4⟩:=g3.TG.Ap hq
 have okx:=bI.wC (e:=e) (z:=z) (p:=(x,q')) (nx:=h.next) (t:=t0) hb hk (Nat.le_refl _)
 have hgx:∀ y,((bI.st nb e z (x,q') h.next t0).h0 h).get y=if y=nb then some (.half x q' e z) else h.get y:=fun y=>by
  show (kX _ h.t).get y=_
  simp only [bI.st,kX]
  exact T.get_put _ _ _ _ _ (aO hb)
 have hrx:HR ρ1 ((bI.st nb e z (x,q') h.next t0).h0 h) w1:=by
  have known:∀ y,(((bI.st nb e z (x,q') h.next t0).h0 h).get y).isSome=true→(h0.get y).isSome=true:=fun y hy=>by
   rw [hgx] at hy
   rw [hget]
   split at hy
   ·rename_i ey;rw [ey,hg];rfl
   ·exact hy
  refine ⟨q3.dH,fun y oy hy=>?_,fun y y' m l l' h1 h2 h3 h4=>q3.inj y y' m l l' (known y h1) (known y' h2) h3 h4⟩
  rw [hgx] at hy
  split at hy
  ·rename_i ey
   cases hy
   subst ey
   exact ⟨x0,k0,o',g1,g2,by simpa using g4⟩
  ·rename_i ey
   exact q3.ob y oy (by rw [hget];exact hy)
 have hAx:(bI.st nb e z (x,q') h.next t0).At ρ h w [nb] ρ1 w1:=by
  refine ⟨?_,hrx⟩
  refine q2.KN (h2:=(bI.st nb e z (x,q') h.next t0).h h [nb]) (l:=[]) (L:=[nb]++List.range' h.next (h.next - h.next)) (by rw [hl0];rfl) (by simp [Cst.h,bI.st]) (by show h0.next≤h.next;omega) (fun b hb=>by simp at hb) (fun b hb'=>?_) fun b hb'=>?_
  ·simp at hb'
   subst hb'
   exact .inl hk
  ·have hb':b≠nb:=fun e1=>hb' (by simp [e1])
   have:=hgx b
   rw [if_neg hb'] at this
   exact this
 obtain ⟨ρ2,a2,w2,s1,s2,s3⟩:=bI.go_ok hI hD hb hk hr hu (b:=b) (kk:=.inBlock c.ry::k) (cs:=cs) (len - 1) _ t0 tF h.next nxF pre ego (Nat.le_refl _) mx (x,q') (List.mem_map.2 ⟨_,hxq,rfl⟩) ρ1 a1 w1 hAx ⟨q4.DT,q4.kind,q4.DJ,q4.tmps,q4.marks⟩
 have okF:=bI.wC (e:=e) (z:=z) (p:=(pre,[])) (nx:=nxF) (t:=tF) hb hk hle
 obtain ⟨ρ3,a3,w3,p1,p2,p3,p4⟩:=rx ρ2 b a2 (.inLoop c.lb :: .inBlock c.ry::k) cs w2 ⟨s3.DT,s3.kind,s3.DJ,s3.tmps,s3.marks⟩ s2.hr (s2.QL okF hu)
 have okE:(Cst.mk [(nb,.cells pre e (some z))] h2.next t2).OK h [nb]:=by
  refine ⟨fun q hq=>?_,fun q hq=>?_,fun b hb'=>?_,fun b hb'=>?_,by show h.next≤h2.next;omega⟩
  ·obtain rfl:=List.mem_singleton.1 hq;exact hb
  ·obtain rfl:=List.mem_singleton.1 hq;exact .inl (by simp)
  ·obtain rfl:=List.mem_singleton.1 hb';exact hk
  ·obtain rfl:=List.mem_singleton.1 hb';exact ⟨_,List.mem_singleton.2 rfl,rfl⟩
 have AE:=s2.step okF okE hr hu (Nat.le_refl _) p2 p3 tk
 refine ⟨ρ3,a3,w3,?_,AE.TM.yz h.log,AE.hr.yz,p4.DT,p4.kind,p4.DJ,p4.tmps,p4.marks⟩
 have hx:=p1.1 k (by simp [exitTo])
 exact Steps.trans (.head stepR_seq q1) (.head stepR_block (.head stepR_loop (s1.trans hx)))
def DI (P:Program) (inv:Iv) (c:bI) (f0:FuncId):FuncId→List Value→H→Option (Option (Value × H)):=fun f args h=>match Nat.beq f f0 with
 | true=>match c.aG P inv f0 args h with
  | some r=>some (some r)
  | none=>none
 | false=>none
theorem Ei (hI:iH P inv) (hD:fF P inv) {c:bI} {f0:FuncId} (hc:c.OK P f0):df P (DI P inv c f0):=fun f args h v h' e=>by
 unfold DI at e
 split at e
 ·rename_i hf
  obtain rfl:=Nat.eq_of_beq_eq_true hf
  split at e
  ·rename_i r er
   simp only [Option.some.injEq] at e
   subst e
   exact bI.does hI hD hc er
  ·cases e
 ·cases e
end
end Ev
end Go
end
end
