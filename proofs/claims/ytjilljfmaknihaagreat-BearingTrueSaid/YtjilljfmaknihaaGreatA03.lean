import Derived.Test.YtjilljfmaknihaaGreatA02
set_option linter.all false
namespace Go.Ev
def look{α:Type}(P:aH):Sem α->aB α
|.pure a=>some a
|.program k=>look P (k P)
|_=>none
mutual
def flat:ae->Bool
 |.bool _|.int _ _|.string _|.nilFunc|.nilIface|.pointer none|.map none|.chan none|.slice none _ _=>true
 |.agg ⟨cs⟩=>kY cs
 |.tuple ⟨cs⟩=>kY cs
 |_=>false
def kY:List ae->Bool
 |[]=>true
 |c::cs=>match flat c with
  |true=>kY cs
  |false=>false
end
def nth{α:Type}:List α->Nat->aB α
|[],_=>none
|a::l,k=>match k with
 |0=>some a
 |n+1=>nth l n
def cut{α:Type}:List α->Nat->Nat->aB (List α)
 |l,0,n=>takeN l n
 |[],_+1,n=>takeN [] n
 |_::l,k+1,n=>cut l k n
where takeN:List α->Nat->aB (List α)
 |_,0=>some []
 |[],_+1=>none
 |a::l,n+1=>(takeN l n).map (a::·)
def over{α:Type}:List α->Nat->List α->aB (List α)
 |l,0,vs=>KC l vs
 |[],_+1,vs=>KC [] vs
 |a::l,k+1,vs=>(over l k vs).map (a::·)
where KC:List α->List α->aB (List α)
 |l,[]=>some l
 |[],_::_=>none
 |_::l,v::vs=>(KC l vs).map (v::·)
def single:ae->Bool
|.agg _|.tuple _=>false
|_=>true
variable(P:aH)
def loads(h:H)(a:Addr)(n:Nat):aB (List ae):=
 match a.spot,h.get a.block with
 |none,some (.cells c _ _)=>cut c a.off n
 |none,some (.shut c _)=>cut c a.off n
 |none,some (.half c _ _ _)=>cut c a.off n
 |_,_=>none
def stores(h:H)(a:Addr)(vs:List ae):aB H:=
 match a.spot,h.get a.block,vs.all single,Nat.blt a.block top with
 |none,some (.cells c e s),true,true=>match over c a.off vs with
  |some c'=>some (h.put a.block (.cells c' e s))
  |none=>none
 |none,some (.half c q e z),true,true=>match over c a.off vs with
  |some c'=>some (h.put a.block (.half c' q e z))
  |none=>none
 |_,_,_,_=>none
def aeV(d:TypeDesc):Bool:=
 match d with
 |.struct _|.array _ _=>true
 |_=>false
def Z4(h:H)(t:aZ)(a:Addr):aB ae:=
 match P.underlying t,P.info? t with
 |some d,some i=>match aeV d with
  |true=>match loads h a i.size with
   |some cs=>some (.agg ⟨cs⟩)
   |none=>none
  |false=>match loads h a 1 with
   |some [v]=>some v
   |_=>none
 |_,_=>none
def I8(h:H)(t:aZ)(a:Addr)(v:ae):aB H:=
 match P.info? t with
 |some i=>match Nat.beq v.cells.toList.length i.size with
  |true=>stores h a v.cells.toList
  |false=>none
 |none=>none
def ZN(t:aZ)(cs:List ae)(off:Nat):aB ae:=
 match P.underlying t,P.info? t with
 |some d,some i=>match aeV d with
  |true=>match cut cs off i.size with
   |some l=>some (.agg ⟨l⟩)
   |none=>none
  |false=>nth cs off
 |_,_=>none
def zeroOf(t:aZ):aB ae:=
 match P.info? t with
 |some i=>match i.zero with
  |some z=>match flat z with
   |true=>some z
   |false=>none
  |none=>none
 |none=>none
def small(i:Int)(y:Nat):aB Nat:=
 match i with
 |.ofNat n=>match Nat.blt n y with
  |true=>some n
  |false=>none
 |.negSucc _=>none
def soft:Nat:=2 ^ 60
def um(x:aB ae)(d y:Nat):aB Nat:=
 match x with
 |none=>some d
 |some (.int _ i)=>small i (y+1)
 |some _=>none
def vH(a:Addr)(n:Nat):aB Addr:=
 match a.spot with
 |none=>some ⟨a.block,a.off+n,none⟩
 |some _=>none
def IB(lo hi mx:aB ae)(n lim:Nat):aB (Nat×Nat×aB Nat):=
 match mx with
 |none=>match um hi n lim with
  |some h=>match um lo 0 h with
   |some l=>some (l,h,none)
   |none=>none
  |none=>none
 |some _=>match hi with
  |none=>none
  |some _=>match um mx lim lim with
   |some m=>match um hi n m with
    |some h=>match um lo 0 h with
     |some l=>some (l,h,some m)
     |none=>none
    |none=>none
   |none=>none
def partOf(a:Addr)(size l h m:Nat):aB ae:=
 match vH a (l*size),Nat.blt m soft with
 |some a',true=>some (.slice (some (match Nat.beq m l with|true=>a|false=>a')) (h-l) (m-l))
 |_,_=>none
def Nh(t:aZ)(x:ae)(lo hi mx:aB ae):aB ae:=
 match P.underlying t,x with
 |some (.slice e),.slice a n cap=>
  match Nat.blt cap soft with
  |true=>match IB lo hi mx n cap,P.info? e with
   |some (l,h,m),some i=>match a with
    |some a=>partOf a i.size l h (m.getD cap)
    |none=>some (.slice none (h-l) (m.getD cap-l))
   |_,_=>none
  |false=>match IB lo hi mx n n,P.info? e,a with
   |some (l,h,some m),some i,some a=>partOf a i.size l h m
   |some (0,h,none),some _,some ⟨b,o,none⟩=>some (.slice (some ⟨b,o,none⟩) h cap)
   |_,_,_=>none
 |some (.array n e),.pointer (some a)=>arr n e a
 |some (.pointer p),.pointer (some a)=>match P.underlying p with
  |some (.array n e)=>arr n e a
  |_=>none
 |_,_=>none
where arr (n:Nat) (e:aZ) (a:Addr):aB ae:=
  match IB lo hi mx n n,P.info? e with
  |some (l,h,m),some i=>partOf a i.size l h (m.getD n)
  |_,_=>none
def Oy(t:aZ)(x i:ae):aB ae:=
 match i with
 |.int _ i=>match P.underlying t,x with
  |some (.array n e),.pointer (some a)=>at_ n e a i
  |some (.slice e),.slice (some a) n _=>at_ n e a i
  |_,_=>none
 |_=>none
where at_ (n:Nat) (e:aZ) (a:Addr) (i:Int):aB ae:=
  match small i n,P.info? e with
  |some k,some j=>match vH a (k*j.size) with
   |some a'=>some (.pointer (some a'))
   |none=>none
  |_,_=>none
def YA(t:aZ)(x:ae)(f:Nat):aB ae:=
 match P.underlying t,x with
 |some (.struct fs),.pointer (some a)=>match nth fs.toList f with
  |some g=>match P.info? g.type with
   |some i=>match Nat.beq i.size 0 with
    |true=>none
    |false=>match vH a g.offset with
     |some a'=>some (.pointer (some a'))
     |none=>none
   |none=>none
  |none=>none
 |_,_=>none
def ZC(i:TypeInfo)(z:ae)(k:Nat):Bool:=
 match Nat.blt k 1000000,Nat.blt i.bytes 1000000,Nat.beq i.size 0 with
 |true,true,false=>Nat.beq z.cells.toList.length i.size
 |_,_,_=>false
def Bl(h:H)(t:aZ)(s x:ae):aB (ae×H):=
 match P.underlying t,s,x with
 |some (.slice e),.slice base n cap,.slice _ 0 _=>match Nat.ble n cap,P.info? e with
  |true,some _=>some (.slice base n cap,h)
  |_,_=>none
 |some (.slice e),.slice base n cap,.slice (some xb) m _=>match P.info? e,zeroOf P e with
  |some i,some z=>match loads h xb (m*i.size),ZC i z (n+m) with
   |some new,true=>match new.all single with
    |true=>match base with
     |none=>match n,cap with
      |0,0=>match h.new (.cells new e (some i.size)) with
       |some (r,h')=>some (.slice (some ⟨r,0,none⟩) m soft,h')
       |none=>none
      |_,_=>none
     |some a=>match Nat.blt cap soft with
      |true=>match Nat.ble (n+m) cap with
       |true=>match vH a (n*i.size) with
        |some a'=>match stores h a' new with
         |some h'=>some (.slice (some a) (n+m) cap,h')
         |none=>none
        |none=>none
       |false=>match loads h a (n*i.size) with
        |some old=>match h.new (.cells (old++new) e (some i.size)) with
         |some (r,h')=>some (.slice (some ⟨r,0,none⟩) (n+m) soft,h')
         |none=>none
        |none=>none
      |false=>match a with
       |⟨b,0,none⟩=>match h.get b,Nat.blt b top with
        |some (.cells c e' (some k)),true=>match Nat.beq c.length (n*i.size),Nat.beq k i.size,Nat.beq e' e with
         |true,true,true=>match(h.kill b).new (.cells (c++new) e' (some k)) with
          |some (r,h')=>some (.slice (some ⟨r,0,none⟩) (n+m) soft,h')
          |none=>none
         |_,_,_=>none
        |_,_=>none
       |_=>none
    |false=>none
   |_,_=>none
  |_,_=>none
 |_,_,_=>none
def ZA(h:H)(t:aZ)(s x:ae):aB (ae×H):=
 match P.underlying t,s,x with
 |some (.slice e),.slice (some ⟨b,0,none⟩) n cap,.slice (some xb) 1 _=>match h.get b,P.info? e,zeroOf P e with
  |some (.qO c e' k),some i,some z=>match loads h xb (1*i.size),ZC i z (n+1)&&Nat.blt b top && !Nat.blt cap soft&&Nat.beq c.length n&&(c.all fun l=>Nat.beq l.length k)&&Nat.beq k i.size&&Nat.beq e' e && !Nat.beq xb.block b with
   |some new,true=>match new.all single with
    |true=>match(h.kill b).new (.qO (c++[new]) e' k) with
     |some (r,h')=>some (.slice (some ⟨r,0,none⟩) (n+1) soft,h')
     |none=>none
    |false=>none
   |_,_=>none
  |_,_,_=>none
 |_,_,_=>none
def IG(h:H)(t:aZ)(s x:ae):aB (ae×H):=
 match Bl P h t s x with
 |some r=>some r
 |none=>ZA P h t s x
def copyV(h:H)(t:aZ)(d x:ae):aB (ae×H):=
 match P.underlying t,d,x with
 |some (.slice e),.slice db dn _,.slice xb xn _=>match P.info? e with
  |some i=>
   let n:=match Nat.ble xn dn with|true=>xn|false=>dn
   match(match xb with|none=>(match n with|0=>some []|_+1=>none)|some b=>loads h b (n*i.size)) with
   |some cs=>match db with
    |none=>some (.int .i64 n,h)
    |some a=>match stores h a cs with
     |some h'=>some (.int .i64 n,h')
     |none=>none
   |none=>none
  |none=>none
 |_,_,_=>none
def gp{α:Type}(z:List α):Nat->List α
|0=>[]
|n+1=>z++gp z n
def Iq(es:List MapEntry):Bool:=es.all fun e=>match flat e.key with|true=>flat e.val|false=>false
inductive R (α:Type) where
 |fail
 |one (a:α)
 |more (a:α) (r:R α)
def R.ok{α:Type}:R α->Bool
|.fail=>false
|.one _=>true
|.more _ r=>r.ok
def R.ofOption{α:Type}:aB α->R α
|none=>.fail
|some a=>.one a
def R.app{α:Type}:R α->R α->R α
|.fail,_=>.fail
|.one a,s=>.more a s
|.more a r,s=>.more a (r.app s)
def R.bind{α β:Type}:R α->(α->R β)->R β
|.fail,_=>.fail
|.one a,f=>f a
|.more a r,f=>(f a).app (r.bind f)
def opts(ρ:fH->aB ae):List fH->aB (List ae)
|[]=>some []
|x::xs=>match ρ x,opts ρ xs with
 |some v,some vs=>some (v::vs)
 |_,_=>none
def opt(ρ:fH->aB ae):aB fH->aB (aB ae)
|none=>some none
|some x=>match ρ x with
 |some v=>some (some v)
 |none=>none
def places:List (Nat×aZ)->aB (List (Nat×Nat))
|[]=>some []
|(off,t)::fs=>match P.info? t,places fs with
 |some i,some l=>some ((off,i.size)::l)
 |_,_=>none
def KI(v:aB ae):aB ae:=
 match v with
 |some v=>match flat v with
  |true=>some v
  |false=>none
 |none=>none
def ael(op:BinOp)(a b:ae):aB ae:=
 match a,b with
 |.int .i64 (.ofNat m),.int .i64 (.ofNat n)=>match op with
  |.add=>match Nat.blt (m+n) 4611686018427387904 with
   |true=>some (.int .i64 (.ofNat (m+n)))
   |false=>none
  |.eql=>some (.bool (Nat.beq m n))
  |.neq=>some (.bool (!Nat.beq m n))
  |.lss=>some (.bool (Nat.blt m n))
  |.gtr=>some (.bool (Nat.blt n m))
  |.leq=>some (.bool (Nat.ble m n))
  |.geq=>some (.bool (Nat.ble n m))
  |_=>none
 |_,_=>none
def aej(op:BinOp)(a b:ae):aB ae:=
 match op with
 |.eql|.neq|.lss|.gtr|.leq|.geq=>ael op a b
 |_=>none
def Qp:TypeDesc->ae->ae->Bool
|.slice _,.slice (some _) _ _,.slice none _ _=>true
|.slice _,.slice none _ _,.slice (some _) _ _=>true
|.pointer _,.pointer (some _),.pointer none=>true
|.pointer _,.pointer none,.pointer (some _)=>true
|.map _ _,.map (some _),.map none=>true
|.map _ _,.map none,.map (some _)=>true
|.func _ _ _,.func _ _ _,.nilFunc=>true
|.func _ _ _,.nilFunc,.func _ _ _=>true
|_,_,_=>false
def sZ(ρ:fH->aB ae)(o:Op):aB ae:=
 match o with
 |.move x|.assign x=>ρ x
 |.pick c a b=>match ρ c with
  |some (.bool true)=>ρ a
  |some (.bool false)=>ρ b
  |_=>none
 |.nilCheck x=>match ρ x with
  |some (.pointer (some a))=>some (.pointer (some a))
  |_=>none
 |.fieldAddr t x f=>match ρ x with
  |some v=>YA P t v f
  |none=>none
 |.indexAddr t x i=>match ρ x,ρ i with
  |some v,some i=>Oy P t v i
  |_,_=>none
 |.slice t x lo hi mx=>match ρ x,opt ρ lo,opt ρ hi,opt ρ mx with
  |some v,some lo,some hi,some mx=>Nh P t v lo hi mx
  |_,_,_,_=>none
 |.field t x f=>match P.underlying t,ρ x with
  |some (.struct fs),some (.agg ⟨cs⟩)=>match nth fs.toList f with
   |some g=>ZN P g.type cs g.offset
   |none=>none
  |_,_=>none
 |.index t x i=>match P.underlying t,ρ x,ρ i with
  |some (.array n e),some (.agg ⟨cs⟩),some (.int _ i)=>match small i n,P.info? e with
   |some k,some j=>ZN P e cs (k*j.size)
   |_,_=>none
  |some .string,some (.string s),some (.int k i)=>KI (look P (Instr.index t (.string s) (.int k i)))
  |_,_,_=>none
 |.extract x k=>match ρ x with
  |some (.tuple ⟨vs⟩)=>nth vs k
  |_=>none
 |.makeFunc fn a b=>match opts ρ a.toList,opts ρ b.toList,(match fn with|.func _=>true|_=>false) with
  |some a,some b,true=>some (.func fn ⟨a⟩ ⟨b⟩)
  |_,_,_=>none
 |.build t ps=>match opts ρ (ps.toList.map (·.2)),zeroOf P t with
  |some vs,some z=>match P.underlying t with
   |some (.struct fs)=>match places P (fs.toList.map fun f=>(f.offset,f.type)) with
    |some pl=>match Instr.fill (fun i=>nth pl i) z.cells ((ps.toList.map (·.1)).zip vs) with
     |some cs=>some (.agg cs)
     |none=>none
    |none=>none
   |some (.array _ e)=>match P.info? e with
    |some j=>match Instr.fill (fun i=>some (i*j.size,j.size)) z.cells ((ps.toList.map (·.1)).zip vs) with
     |some cs=>some (.agg cs)
     |none=>none
    |none=>none
   |_=>none
  |_,_=>none
 |.call c=>match c.callee,opts ρ c.args.toList with
  |.builtin .len,some [.slice _ n _]=>match(match c.argTypes[0]? with|some t=>P.underlying t|none=>none) with
   |some (.slice _)=>some (.int .i64 n)
   |_=>none
  |.builtin .cap,some [.slice _ _ n]=>match Nat.blt n soft,(match c.argTypes[0]? with|some t=>P.underlying t|none=>none) with
   |true,some (.slice _)=>some (.int .i64 n)
   |_,_=>none
  |.builtin .min,some (x::xs)=>match kY (x::xs) with
   |true=>KI (look P (Builtin.min_ #[] 0 ⟨x::xs⟩))
   |false=>none
  |.builtin .max,some (x::xs)=>match kY (x::xs) with
   |true=>KI (look P (Builtin.max_ #[] 0 ⟨x::xs⟩))
   |false=>none
  |_,_=>none
 |.binOp op t x y _=>match ρ x,ρ y with
  |some a,some b=>match aej op a b with
   |some v=>some v
   |none=>match flat a,flat b with
    |true,true=>match look P (eqGuard op t x y a b) with
     |some _=>KI (look P (binOp op t a b))
     |none=>none
    |_,_=>match P.underlying t with
     |some d=>match Qp d a b with
      |true=>match op with
       |.eql=>some (.bool false)
       |.neq=>some (.bool true)
       |_=>none
      |false=>none
     |none=>none
  |_,_=>none
 |.unOp op _ x=>match ρ x with
  |some a=>match flat a with
   |true=>KI (look P (Op.unary op a))
   |false=>none
  |none=>none
 |.convert s d x=>match ρ x with
  |some a=>match flat a with
   |true=>KI (look P (convert s d a))
   |false=>none
  |none=>none
 |_=>none
def xZ(o:Op):Bool:=
 match o with
 |.move _|.assign _|.pick .. | .nilCheck _|.fieldAddr .. | .indexAddr .. | .slice .. | .field .. | .index .. | .extract .. | .makeFunc .. | .build .. | .binOp .. | .unOp .. | .convert ..=>true
 |.call c=>match c.callee with
  |.builtin .len|.builtin .cap|.builtin .min|.builtin .max=>true
  |_=>false
 |_=>false
def made(r:aB (Nat×H))(k:Nat->ae):R (ae×H):=
 match r with
 |some (b,h')=>.one (k b,h')
 |none=>.fail
def done(r:aB H):R (ae×H):=
 match r with
 |some h'=>.one (.tuple #[],h')
 |none=>.fail
def WO(h:H)(r m since clock:Nat)(seen:List Nat)(e:MapEntry):List MapEntry->R (ae×H)
|[]=>.one (.tuple #[.bool true,e.key,e.val],h.put r (.iter (some m) since (seen++[e.born]) clock))
|e'::es=>.more (.tuple #[.bool true,e.key,e.val],h.put r (.iter (some m) since (seen++[e.born]) clock)) (WO h r m since clock seen e' es)
def iP(ρ:fH->aB ae)(o:Op)(h:H):R (ae×H):=
 match o with
 |.alloc t=>match zeroOf P t with
  |some z=>made (h.new (.cells z.cells.toList t none)) fun b=>.pointer (some ⟨b,0,none⟩)
  |none=>.fail
 |.box t x=>match ρ x with
  |some v=>match v.cells.toList.all single with
   |true=>made (h.new (.cells v.cells.toList t none)) fun b=>.pointer (some ⟨b,0,none⟩)
   |false=>.fail
  |none=>.fail
 |.load t x=>match ρ x with
  |some (.pointer (some a))=>match Z4 P h t a with
   |some v=>.one (v,h)
   |none=>.fail
  |_=>.fail
 |.store t x y=>match ρ x,ρ y with
  |some (.pointer (some a)),some v=>done (I8 P h t a v)
  |_,_=>.fail
 |.makeMap t none=>match P.underlying t with
  |some (.map _ _)=>made (h.new (.map [] 0)) fun b=>.map (some b)
  |_=>.fail
 |.buildSlice t len ps=>match opts ρ (ps.toList.map (·.2)),P.underlying t with
  |some vs,some (.slice e)=>match P.info? e,zeroOf P e with
   |some j,some z=>match Nat.ble (len*j.size) (2 ^ 24),Nat.beq z.cells.toList.length j.size,Nat.beq j.size 0 with
    |true,true,false=>match Instr.fill (fun i=>some (i*j.size,j.size)) ⟨gp z.cells.toList len⟩ ((ps.toList.map (·.1)).zip vs) with
     |some ⟨cs⟩=>made (h.new (.cells cs e none)) fun b=>.slice (some ⟨b,0,none⟩) len len
     |none=>.fail
    |_,_,_=>.fail
   |_,_=>.fail
  |_,_=>.fail
 |.makeSlice t l c=>match P.underlying t,ρ l,ρ c with
  |some (.slice e),some (.int _ l),some (.int _ c)=>match small l 1000000,small c 1000000,P.info? e,zeroOf P e with
   |some l,some c,some j,some z=>match Nat.ble l c,Nat.beq z.cells.toList.length j.size,Nat.beq j.size 0,Nat.blt j.bytes 1000000 with
    |true,true,false,true=>made (h.new (.cells (gp z.cells.toList c) e none)) fun b=>.slice (some ⟨b,0,none⟩) l c
    |_,_,_,_=>.fail
   |_,_,_,_=>.fail
  |_,_,_=>.fail
 |.lookup t x i ok=>match P.underlying t,ρ x,ρ i with
  |some (.map k e),some (.map (some r)),some i=>match h.get r,flat i with
   |some (.map es _),true=>match look P (Instr.checkKey es.isEmpty 10000 k i),look P (Instr.findKey k i es),zeroOf P e with
    |some _,some (some (_,v)),_=>match flat v with
     |true=>.one (match ok with|true=>.tuple #[v,.bool true]|false=>v,h)
     |false=>.fail
    |some _,some none,some z=>.one (match ok with|true=>.tuple #[z,.bool false]|false=>z,h)
    |_,_,_=>.fail
   |_,_=>.fail
  |_,_,_=>.fail
 |.mapUpdate t m k x|.insert t m k x=>match P.underlying t,ρ m,ρ k,ρ x with
  |some (.map kt _),some (.map (some r)),some k,some x=>match h.get r,flat k,flat x,Nat.blt r top with
   |some (.map es c),true,true,true=>match look P (Instr.checkKey false 10000 kt k),look P (Instr.findKey kt k es) with
    |some _,some (some (i,_))=>match look P (Instr.keyThatStays (((es[i]?).map (·.key)).getD k) k) with
     |some k'=>.one (.tuple #[],h.put r (.map (es.modify i fun e=>{e with key:=k',val:=x}) c))
     |none=>.fail
    |some _,some none=>.one (.tuple #[],h.put r (.map (es++[{key:=k,val:=x,born:=c}]) (c+1)))
    |_,_=>.fail
   |_,_,_,_=>.fail
  |_,_,_,_=>.fail
 |.range t x=>match P.underlying t,ρ x with
  |some (.map _ _),some (.map (some r))=>match h.get r with
   |some (.map _ c)=>made (h.new (.iter (some r) c [] c)) fun b=>.pointer (some ⟨b,0,none⟩)
   |_=>.fail
  |_,_=>.fail
 |.next x false=>match ρ x with
  |some (.pointer (some ⟨r,0,none⟩))=>match h.get r,Nat.blt r top with
   |some (.iter (some m) since seen stepped),true=>match h.get m with
    |some (.map es c)=>match es.all fun e=>Nat.blt e.born since,(match seen with | []=>true|_::_=>es.any fun e=>Nat.blt e.born stepped) with
     |true,true=>match es.filter fun e=>!seen.contains e.born with
      |[]=>.one (.tuple #[.bool false],h)
      |e::l=>WO h r m since c seen e l
     |_,_=>.fail
    |_=>.fail
   |_,_=>.fail
  |_=>.fail
 |.entry x=>match ρ x with
  |some (.pointer (some ⟨r,0,none⟩))=>match h.get r with
   |some (.iter (some m) _ seen stepped)=>match h.get m,seen.getLast? with
    |some (.map es c),some stamp=>match Nat.beq c stepped,es.find? fun e=>Nat.beq e.born stamp with
     |true,some e=>.one (.tuple #[e.key,e.val],h)
     |_,_=>.fail
    |_,_=>.fail
   |_=>.fail
  |_=>.fail
 |.call c=>match c.callee,opts ρ c.args.toList with
  |.builtin .append,some [s,x]=>match c.argTypes[0]?,c.argTypes[1]? with
   |some t,some t1=>match Nat.beq t t1,IG P h t s x with
    |true,some r=>.one r
    |_,_=>.fail
   |_,_=>.fail
  |.builtin .copy,some [d,x]=>match c.argTypes[0]? with
   |some t=>.ofOption (copyV P h t d x)
   |none=>.fail
  |.builtin .len,some [.map (some r)]=>.fail
  |_,_=>.fail
 |_=>.fail
inductive Ex where
 |normal|ret
 |exit (id:Nat)
structure St where
 t:T ae
 h:H
 marks:List Nat
def nV(t:T ae)(n:Nat)(d:aB Tmp)(v:ae):aB (T ae):=
 match d with
 |none=>some t
 |some d=>match Nat.blt d n,Nat.blt d top with
  |true,true=>some (T.put T.deep t d (some v))
  |_,_=>none
def di(t:T ae):fH->aB ae
|.tmp d=>t.get d
|.const v=>match flat v with|true=>some v|false=>none
|.global _=>none
|.func f=>some (.func (.func f) #[] #[])
def rY(ops:List bn)(t:T ae)(o:bn):aB Bool:=
 match o.guard with
 |none=>some true
 |some (j,want)=>match nth ops j with
  |some oj=>match oj.dst with
   |some d=>match t.get d with
    |some (.bool b)=>some (b==want)
    |some (.tuple _)=>some false
    |_=>none
   |none=>some false
  |none=>some false
def callee(v:ae)(args:List ae):aB (Fn×List ae):=
 match v with
 |.func (.func f) ⟨a⟩ ⟨b⟩=>some (.func f,a++args++b)
 |.func (.yield l) ⟨a⟩ ⟨_⟩=>some (.yield l,a++args)
 |_=>none
def uD(ops:List bn):Nat->Nat->Nat->Bool
|0,_,_=>false
|k+1,j,i=>match nth ops i with
 |some o=>o.after.toList.any fun e=>match Region.binds .any e with
  |true=>match Nat.beq e.on j with
   |true=>true
   |false=>uD ops k j e.on
  |false=>false
 |none=>false
def abr(ops:List bn)(i j:Nat):Bool:=
 match uD ops ops.length i j with
 |true=>true
 |false=>uD ops ops.length j i
def lu(ops:List bn)(o:bn):List Nat:=
 (o.op.operands.toList.filterMap fun|.tmp d=>some d|_=>none)++(match o.guard with
  |some (j,_)=>match nth ops j with
   |some oj=>oj.dst.toList
   |none=>[]
  |none=>[])
def upto:Nat->List Nat
|0=>[]
|n+1=>upto n++[n]
def O0(ops:List bn):Bool:=
 (upto ops.length).all fun i=>match nth ops i with
  |some oi=>(oi.after.toList.all fun e=>match Region.binds .any e with|true=>Nat.blt e.on i|false=>true)&&
   (match oi.dst with
   |some d=>(upto ops.length).all fun j=>match Nat.beq i j with
    |true=>true
    |false=>match nth ops j with
     |some oj=>match(match oj.dst with|some d'=>Nat.beq d' d|none=>false),(lu ops oj).any fun d'=>Nat.beq d' d with
      |false,false=>true
      |_,_=>abr ops i j
     |none=>false
   |none=>true)
  |none=>false
structure Rec where
 i:Nat
 h0:H
 h1:H
def lay(h1:H):List Nat->T Ob->T Ob
|[],t=>t
|b::l,t=>T.put T.deep (lay h1 l t) b (h1.get b)
def narrow(t:T ae)(o:Op)(m:T Ob):T Ob:=
 match(match o with|.load _ x=>some x|.store _ x _=>some x|_=>none) with
 |some x=>match di t x with
  |some (.pointer (some a))=>match m.get a.block,Nat.blt a.block top with
   |some ob,true=>T.put T.deep .nil a.block (some ob)
   |_,_=>.nil
  |_=>m
 |none=>m
def Under(m m':T Ob):Prop:=∀b o,m.get b=some o->m'.get b=some o
def TL(t)(o)(m):Under (narrow t o m) m:=fun b ob h=>by
 unfold narrow at h;split at h
 .split at h
  .split at h
   .rename_i hg hb;rw[ik] at hb;rw[T.get_put _ _ _ _ _ (df hb)] at h
    split at h
    .rename_i e;cases h;subst e;exact hg
    cases h
   cases h
  exact h
 exact h
def behind(ops:List bn)(i:Nat)(t:T Ob):List Rec->T Ob
|[]=>t
|r::rs=>match uD ops ops.length r.i i with
 |true=>lay r.h1 r.h1.log (behind ops i t rs)
 |false=>behind ops i t rs
def untouched(h:H):List Nat->Bool
|[]=>true
|b::l=>match h.get b with
 |none=>untouched h l
 |some _=>false
def apartB(ops:List bn)(r:Rec):List Rec->Bool
|[]=>true
|s::rs=>match abr ops r.i s.i with
 |true=>apartB ops r rs
 |false=>match untouched r.h0 s.h1.log,untouched s.h0 r.h1.log with
  |true,true=>apartB ops r rs
  |_,_=>false
def DD(ops:List bn):List Rec->Bool
|[]=>true
|r::rs=>match apartB ops r rs with
 |true=>DD ops rs
 |false=>false
section
variable(P:aH)(inv:Fn->List ae->H->R (ae×H))
def ahs(t:T ae)(h:H)(o:Op):R (ae×H):=
 match xZ o with
 |true=>match sZ P (di t) o with
  |some v=>.one (v,h)
  |none=>.fail
 |false=>match o with
  |.call c=>match c.callee with
   |.value f=>match di t f,opts (di t) c.args.toList with
    |some v,some args=>match callee v args with
     |some (g,args)=>inv g args h
     |none=>.fail
    |_,_=>.fail
   |_=>iP P (di t) o h
  |_=>iP P (di t) o h
def opsL(n:Nat)(all:List bn):List bn->St->R St
|[],s=>.one s
|o::l,s=>match rY all s.t o with
 |some true=>(ahs P inv s.t s.h o.op).bind fun x=>match nV s.t n o.dst x.1 with
   |some t=>opsL n all l ⟨t,x.2,s.marks⟩
   |none=>.fail
 |some false=>match nV s.t n o.dst (.tuple #[]) with
  |some t=>opsL n all l ⟨t,s.h,s.marks⟩
  |none=>.fail
 |none=>.fail
def afJ(n:Nat)(all:List bn)(t0:T Ob):List bn->Nat->T ae->Nat->List Rec->aB (T ae×Nat×List Rec)
|[],_,t,nx,rs=>some (t,nx,rs)
|o::l,i,t,nx,rs=>match rY all t o with
 |some true=>match xZ o.op with
  |true=>match sZ P (di t) o.op with
   |some v=>match nV t n o.dst v with
    |some t=>afJ n all t0 l (i+1) t nx rs
    |none=>none
   |none=>none
  |false=>match ahs P inv t ⟨behind all i t0 rs,nx,[]⟩ o.op with
   |.one (v,h1)=>match nV t n o.dst v with
    |some t=>afJ n all t0 l (i+1) t h1.next (⟨i,⟨behind all i t0 rs,nx,[]⟩,h1⟩::rs)
    |none=>none
   |_=>none
 |some false=>match nV t n o.dst (.tuple #[]) with
  |some t=>afJ n all t0 l (i+1) t nx rs
  |none=>none
 |none=>none
def layAll(t:T Ob):List Rec->T Ob
|[]=>t
|r::rs=>lay r.h1 r.h1.log (layAll t rs)
def jQ:List Rec->List Nat
|[]=>[]
|r::rs=>r.h1.log++jQ rs
def drawn(n:Nat)(ops:List bn)(s:St):R St:=
 match O0 ops with
 |true=>match afJ P inv n ops s.h.t ops 0 s.t s.h.next [] with
  |some (t,nx,rs)=>match DD ops rs with
   |true=>.one ⟨t,⟨layAll s.h.t rs,nx,jQ rs++s.h.log⟩,s.marks⟩
   |false=>.fail
  |none=>.fail
 |false=>.fail
def ahx(f:St->R (Ex×St)):Nat->St->R (Ex×St)
|0,_=>.fail
|k+1,s=>(f s).bind fun x=>match x.1 with
 |.normal=>ahx f k x.2
 |_=>.one x
def TW(j:aB Code):aB Ex:=
 match j with
 |none=>some .normal
 |some .ret=>some .ret
 |some (.exit id)=>some (.exit id)
 |_=>none
def ranged(s:St)(f:fH)(l:Nat)(marks:List Nat)(h:H):R (Ex×St):=
 match di s.t f with
 |none=>.fail
 |some v=>match callee v [.func (.yield l) #[] #[]] with
  |none=>.fail
  |some (g,args)=>(inv g args h).bind fun x=>match x.2.get l,Nat.blt l top with
   |some (.loop st j f' t' n' ps' as' b' d'),true=>match st with
    |.busy=>.fail
    |_=>match TW j with
     |some e=>.one (e,⟨s.t,x.2.put l (.loop .exhausted j f' t' n' ps' as' b' d'),marks⟩)
     |none=>.fail
   |_,_=>.fail
def code(fn:aI)(n:Nat)(rd:aB Nat):Code->St->R (Ex×St)
|.skip,s|.label _,s=>.one (.normal,s)
|.region _ ops false,s=>(opsL P inv n ops.toList ops.toList s).bind fun s'=>.one (.normal,s')
|.region _ ops true,s=>(drawn P inv n ops.toList s).bind fun s'=>.one (.normal,s')
|.seq a b,s=>(code fn n rd a s).bind fun x=>match x.1 with
 |.normal=>code fn n rd b x.2
 |_=>.one x
|.cond c a b,s=>match di s.t c with
 |some (.bool true)=>code fn n rd a s
 |some (.bool false)=>code fn n rd b s
 |_=>.fail
|.block id b,s=>(code fn n rd b s).bind fun x=>match x.1 with
 |.exit i=>match Nat.beq i id with
  |true=>.one (.normal,x.2)
  |false=>.one x
 |_=>.one x
|.loop b,s=>ahx (code fn n rd b) 100000 s
|.scope b,s=>code fn n rd b s
|.rangeFunc f ps as b,s=>
 match rd with
 |none=>match s.h.new (.calls true) with
  |some (r,h)=>match h.new (.loop .ready none fn s.t n ps as b r) with
   |some (l,h)=>ranged inv s f l (r::s.marks) h
   |none=>.fail
  |none=>.fail
 |some l=>match s.h.get l with
  |some (.loop _ _ _ _ _ _ _ _ d)=>match s.h.new (.loop .ready none fn s.t n ps as b d) with
   |some (l,h)=>ranged inv s f l s.marks h
   |none=>.fail
  |_=>.fail
|.exit id,s=>.one (.exit id,s)
|.ret,s=>.one (.ret,s)
|_,_=>.fail
def yA:Nat->List ae->T ae->aB (T ae)
|_,[],t=>some t
|i,v::vs,t=>match Nat.blt i top with
 |true=>yA (i+1) vs (T.put T.deep t i (some v))
 |false=>none
def zQ:List Nat->H->aB H
|[],h=>some h
|r::rs,h=>match h.get r,Nat.blt r top with
 |some (.calls true),true=>zQ rs (h.put r (.calls false))
 |_,_=>none
def zt(t:T ae)(h:H):List ResultVar->aB (List ae)
|[]=>some []
|.tmp d::rs=>match t.get d,zt t h rs with
 |some v,some vs=>some (v::vs)
 |_,_=>none
|.cell d ty::rs=>match t.get d with
 |some (.pointer (some a))=>match Z4 P h ty a,zt t h rs with
  |some v,some vs=>some (v::vs)
  |_,_=>none
 |_=>none
def Az(t:T ae)(h:H)(rs:List ResultVar):aB ae:=
 match zt P t h rs with
 |some [v]=>some v
 |some vs=>some (.tuple ⟨vs⟩)
 |none=>none
def AQ:List Tmp->List ae->Nat->T ae->aB (T ae)
|[],[],_,t=>some t
|d::ds,v::vs,n,t=>match nV t n (some d) v with
 |some t=>AQ ds vs n t
 |none=>none
|_,_,_,_=>none
def leave(fn:Func)(x:Ex×St):R (ae×H):=
 match x.1 with
 |.exit _=>.fail
 |_=>match zQ x.2.marks x.2.h with
  |some h=>match Az P x.2.t h fn.results.toList with
   |some v=>.one (v,h)
   |none=>.fail
  |none=>.fail
def alO(l:Nat)(x:Ex×St):R (ae×H):=
 match x.2.h.get l,Nat.blt l top,x.2.marks with
 |some (.loop _ _ f2 t2 n2 ps2 as2 b2 d2),true,[]=>match x.1 with
  |.normal=>.one (.bool true,x.2.h.put l (.loop .ready none f2 t2 n2 ps2 as2 b2 d2))
  |.ret=>.one (.bool false,x.2.h.put l (.loop .done (some .ret) f2 t2 n2 ps2 as2 b2 d2))
  |.exit id=>.one (.bool false,x.2.h.put l (.loop .done (some (.exit id)) f2 t2 n2 ps2 as2 b2 d2))
 |_,_,_=>.fail
def akD(f:aI)(n:Nat)(l:Nat)(b:Code)(x:Ex×St):R (ae×H):=
 match x.1,x.2.h.get l,Nat.blt l top,x.2.marks with
 |.normal,some (.loop .ready j f1 t1 n1 ps1 as1 b1 d1),true,[]=>(code P inv f n (some l) b ⟨x.2.t,x.2.h.put l (.loop .busy j f1 t1 n1 ps1 as1 b1 d1),[]⟩).bind (alO l)
 |_,_,_,_=>.fail
end
mutual
def ajC:ae->ae->Bool
 |.bool a,.bool b=>a==b
 |.int j a,.int k b=>match decide (j=k) with|true=>a==b|false=>false
 |.agg ⟨a⟩,.agg ⟨b⟩=>XI a b
 |_,_=>false
def XI:List ae->List ae->Bool
 |[],[]=>true
 |a::l,b::m=>match ajC a b with
  |true=>XI l m
  |false=>false
 |_,_=>false
end
def aas(k:Nat):List Nat->Bool
|[]=>true
|b::l=>match Nat.ble k b with
 |true=>aas k l
 |false=>false
def alike(k r n:Nat)(c:List ae)(e:aZ)(s:Nat):R (ae×H)->aB Nat
 |.fail=>none
 |.one x=>one x
 |.more x l=>match one x,alike k r n c e s l with
  |some a,some b=>some (match Nat.ble a b with|true=>b|false=>a)
  |_,_=>none
where one (x:ae×H):aB Nat:=
  match x.1 with
  |.slice (some ⟨r',0,none⟩) n' cap=>match Nat.beq r' r,Nat.beq n' n,Nat.beq cap soft,x.2.get r',aas k x.2.log with
   |true,true,true,some (.cells c' e' (some s')),true=>match XI c' c,Nat.beq e' e,Nat.beq s' s with
    |true,true,true=>some x.2.next
    |_,_,_=>none
   |_,_,_,_,_=>none
  |_=>none
def merged(h:H)(x:R (ae×H)):R (ae×H):=
 match x with
 |.one (v,h')=>.one (v,⟨h'.t,h'.next,h'.log++h.log⟩)
 |.more (.slice (some ⟨r,0,none⟩) n cap,h1) l=>match h1.get r with
  |some (.cells c e (some s))=>match alike h.next r n c e s (.more (.slice (some ⟨r,0,none⟩) n cap,h1) l),Nat.blt r top,Nat.ble h.next r with
   |some nx,true,true=>.one (.slice (some ⟨r,0,none⟩) n cap,⟨T.put T.deep h.t r (some (.cells c e (some s))),nx,r::h.log⟩)
   |_,_,_=>.fail
  |_=>.fail
 |_=>.fail
def inv(P:aH)(mg:aI->Bool):Nat->Fn->List ae->H->R (ae×H)
|0,_,_,_=>.fail
|d+1,.func f,args,h=>match P.funcs[f]? with
 |some fn=>match fn.body,yA 0 args .nil,fn.name == "runtime.NumGoroutine" with
  |some c,some t,false=>match mg f with
   |true=>merged h ((code P (inv P mg d) f (args.length+(fn.ntmps-args.length)) none c ⟨t,⟨h.t,h.next,[]⟩,[]⟩).bind (leave P fn))
   |false=>(code P (inv P mg d) f (args.length+(fn.ntmps-args.length)) none c ⟨t,h,[]⟩).bind (leave P fn)
  |_,_,_=>.fail
 |none=>.fail
|d+1,.yield l,args,h=>match h.get l with
 |some (.loop _ _ f t n ps as b _)=>match AQ ps.toList args n t with
  |some t'=>(code P (inv P mg d) f n (some l) as ⟨t',h,[]⟩).bind (akD P (inv P mg d) f n l b)
  |none=>.fail
 |_=>.fail
|_+1,_,_,_=>.fail
end Go.Ev
namespace Go.Ren
section
variable[Mps][Fr][Ext]{P:aH}{f:Nat->Nat}{K:Kd}
def Closed(v:ae):Prop:=∀f:Nat->Nat,val f v=v
def flat:ae->Bool
|.bool _|.int .. | .float .. | .complex .. | .string _|.pointer none|.slice none _ _|.map none|.chan none|.nilFunc|.nilIface=>true
|_=>false
mutual
def dI:ae->Bool
 |.agg ⟨cs⟩|.tuple ⟨cs⟩=>sO cs
 |.func .. | .iface ..=>false
 |.pointer (some _)|.slice (some _) _ _|.map (some _)|.chan (some _)=>false
 |_=>true
def sO:List ae->Bool
 |[]=>true
 |v::l=>dI v&&sO l
end
mutual
theorem cu:∀{v:ae},dI v=true->Closed v
 |.agg ⟨cs⟩,h=>fun f=>by rw[dG];have:=xq (l:=cs) (by simpa only[dI] using h) f;unfold vals;rw[tX,this]
 |.tuple ⟨cs⟩,h=>fun f=>by rw[cO];have:=xq (l:=cs) (by simpa only[dI] using h) f;unfold vals;rw[tX,this]
 |.bool _,_|.int _ _,_|.float _ _,_|.complex _ _ _,_|.string _,_|.nilFunc,_|.nilIface,_|.pointer none,_|.slice none _ _,_|.map none,_|.chan none,_=>fun f=>by simp
 |.func _ _ _,h|.iface _ _,h=>by simp[dI] at h
 |.pointer (some _),h|.slice (some _) _ _,h|.map (some _),h|.chan (some _),h=>by simp[dI] at h
theorem xq:∀{l:List ae},sO l=true->∀f:Nat->Nat,l.map (val f)=l
 |[],_,_=>rfl
 |v::l,h,f=>by simp only[sO,aT] at h;rw[fU,cu h.1 f,xq h.2 f]
end
theorem Ud{v:ae}(h:flat v=true):dI v=true:=by unfold flat at h;split at h<;>first|(simp[dI];done)|cases h
theorem WR{l:List ae}(h:∀c∈l,dI c=true):sO l=true:=by
 induction l with
 |nil=>rfl
 |cons v l a=>simp only[sO,aT];exact⟨h v (by simp),a fun c hc=>h c (by simp[hc])⟩
theorem KT:∀{l:List ae},sO l=true->∀c∈l,dI c=true
|v::l,h,c,hc=>by
 simp only[sO,aT] at h;rcases dW.1 hc with rfl|hc
 .exact h.1
 exact KT h.2 c hc
theorem Dv{cs:Array ae}(h:∀c∈cs,dI c=true):dI (.agg cs)=true:=by have⟨cs⟩:=cs;simp only[dI];exact WR fun c hc=>h c (by simpa using hc)
theorem Qw{z:ae}(h:dI z=true):∀c∈z.cells,dI c=true:=by
 cases z<;>first|(intro c hc;simp only[Value.cells,Array.mem_singleton] at hc;subst hc;exact h)|skip
 case agg cs=>have⟨cs⟩:=cs;exact fun c hc=>KT (by simpa only[dI] using h) c (by simpa[Value.cells] using hc)
structure bz(P:aH):Prop where
 zero:∀t i z,P.info? t=some i->i.zero=some z->dI z=true
 types:P.types.size<=jT
theorem ak{α β:Type}{Q:α->β->Prop}{a:α}{b:β}(h:Q a b):aO P f K Q (pure a) (pure b):=.pure h
theorem ai{α β γ δ:Type}{Q:α->β->Prop}{Q':γ->δ->Prop}{s:Sem α}{s':Sem β}{g:α->Sem γ}{g':β->Sem δ}(h:aO P f K Q s s')(hg:∀a b,Q a b->aO P f K Q' (g a) (g' b)):aO P f K Q' (s >>= g) (s' >>= g'):=aO.bind h hg
theorem uX(m:String):pI (.stuck m):=⟨fun _ h=>(by cases h),rfl⟩
theorem uY(v:ae):pI (.panic v):=⟨fun _ h=>(by cases h),rfl⟩
theorem aF{α β:Type}{Q:α->β->Prop}{m:String}{s':Sem β}:aO P f K Q (stuck m) s':=.halt (uX m)
theorem aS{α β:Type}{Q:α->β->Prop}{u:Unsupported}{s':Sem β}(hn:pI (.unsupported u):=by exact⟨(by intro _ h;cases h),rfl⟩):aO P f K Q (unsupported u) s':=.halt hn
theorem Dies.rel{α β:Type}{Q:α->β->Prop}{s:Sem α}{s':Sem β}(h:Dies P K s):aO P f K Q s s':=.dies h
theorem Dies.halt{α:Type}(h:Halt)(hn:pI h):Dies P K (.halt h:Sem α):=fun v es a=>⟨h,v,es,rfl,hn,a⟩
theorem Dies.bind{α β:Type}{s:Sem α}(h:Dies P K s)(g:α->Sem β):Dies P K (s >>= g):=fun v es a=>by have⟨x,v1,es1,h1,h2⟩:=h v es a;exact⟨x,v1,es1,by rw[show(s >>= g)=s.bind g from rfl,runT_bind,h1],h2⟩
theorem Dies.after{α β:Type}{s:Sem α}{g:α->Sem β}(hs:Calm P K s)(h:∀a,Dies P K (g a)):Dies P K (s >>= g):=fun v es c=>by
 have hc:=hs v es c;rw[show(s >>= g)=s.bind g from rfl,runT_bind];generalize hr:Sem.runT P s v es=r at hc;have⟨r,b⟩:=r;cases r with
 |ok a w=>exact h a w b hc
 |halt x w=>exact⟨x,w,b,rfl,hc⟩
theorem Calm.bind{α β:Type}{s:Sem α}{g:α->Sem β}(hs:Calm P K s)(h:∀a,Calm P K (g a)):Calm P K (s >>= g):=fun v es c=>by
 have hc:=hs v es c;rw[show(s >>= g)=s.bind g from rfl,runT_bind];generalize hr:Sem.runT P s v es=r at hc;have⟨r,b⟩:=r;cases r with
 |ok a w=>exact h a w b hc
 |halt x w=>exact hc
theorem iE{α:Type}(a:α):Calm P K (pure a):=fun _ _ b=>b
theorem RP{α:Type}{h:Halt}(hn:pI h):Calm P K (.halt h:Sem α):=fun _ _ a=>⟨hn,a⟩
theorem rP{α:Type}(m:String):Calm P K (stuck m:Sem α):=RP (uX m)
theorem vw:Calm P K program:=fun _ _ a=>a
theorem Dx(q:Question):Calm P K (choose q):=fun v es a=>by
 rw[show Sem.runT P (choose q) v es=if q.forced then(.ok 0 v,es) else(.ok (q.cut (v.tape v.drawn q)) {v with drawn:=v.drawn+1},es) from rfl]
 cases q.forced<;>exact a
theorem WY{o:Obj}(hp:plain o=true)(hk:lI K o):Calm P K (newObj o):=fun v es c=>by
 show NV K {v with heap:=v.heap.push o};intro b a hb;simp only[iK] at hb;split at hb
 .obtain rfl:=aN hb;exact⟨.inr hp,hk⟩
 exact c b a hb
theorem KX(t:aZ)(x:ae):Calm P K (newVar t x):=Calm.bind (WY rfl trivial) fun _=>iE _
theorem BO(t:aZ):Calm P K (underlying t):=Calm.bind vw fun p=>by split<;>first|exact iE _|exact rP _
theorem Qy(t:aZ):Calm P K (typeInfo t):=Calm.bind vw fun p=>by split<;>first|exact iE _|exact rP _
theorem KY(t:aZ):Calm P K (elemOf t):=Calm.bind (BO t) fun p=>by split<;>first|exact iE _|exact rP _
theorem Iw{α:Type}(v:ae):Dies P K (goPanic v:Sem α):=.halt _ (uY v)
theorem dO{α:Type}(m:String):Dies P K (stuck m:Sem α):=.halt _ (uX m)
theorem dM{α:Type}(u:Unsupported)(hn:pI (.unsupported u):=by exact⟨(by intro _ h;cases h),rfl⟩):Dies P K (unsupported u:Sem α):=.halt _ hn
theorem dA{α:Type}(e:RuntimeError):Dies P K (runtimePanic e:Sem α):=by
 unfold runtimePanic;refine .after vw fun p=>?_;cases e with
 |typeAssertion i c a m=>exact .after (KY _) fun _=>.after (KX _ _) fun _=>.halt _ (uY _)
 |panicNil=>exact .after (KY _) fun _=>.after (KX _ _) fun _=>.halt _ (uY _)
 |_=>exact .halt _ (uY _)
theorem ab7{α:Type}{s:Sem α}(h:Dies P K s):Calm P K s:=fun v es a=>by have⟨x,v1,es1,h1,h2⟩:=h v es a;rw[h1];exact h2
theorem Ae{α:Type}(k:IntKind)(x y:Int)(c:BoundsCode):Dies P K (boundsPanic k x y c:Sem α):=by
 unfold boundsPanic;dsimp only;split
 .exact .after (Calm.bind (Dx _) fun _=>iE _) fun _=>dA _
 exact .after (iE _) fun _=>dA _
theorem Un(v:ae):Calm P K (asIntOf v):=by
 cases v with
 |int k n=>exact iE _
 |pointer a=>cases a<;>first|exact rP _|exact RP ⟨(by intro _ h;cases h),rfl⟩
 |_=>exact rP _
theorem jY{α β:Type}{Q:α->β->Prop}{g:aH->Sem α}{g':aH->Sem β}(h:aO P f K Q (g P) (g' P)):aO P f K Q (program >>= g) (program >>= g'):=.program h
theorem qj(q:Question):aO P f K (fun a b:Nat=>a=b) (choose q) (choose q):=.choose fun _=>.pure rfl
theorem acX:aO P f K (fun _ _:Unit=>True) (Go.mark .noRoom) (Go.mark .noRoom):=.mark (.pure trivial)
theorem ac0(a:Addr)(m:Mode):aO P f K (fun x y=>y=val f x) (load a m) (load (addr f a) m):=.load fun _=>.pure rfl
theorem afM(a:Addr)(x:ae)(m:Mode):aO P f K (fun _ _:Unit=>True) (store a x m) (store (addr f a) (val f x) m):=.store (.pure trivial)
theorem wB{o o':Obj}(hp:plain o=true)(hk:lI K o)(ho:o'=obj f o):aO P f K (fun a b=>b=f a) (newObj o) (newObj o'):=.new hp hk ho fun _=>.pure rfl
def Seen(f:Nat->Nat)(K:Kd)(a b:Obj):Prop:=(plain a=true/\lI K a/\b=obj f a)\/BZ a b
theorem wE(r:Nat):aO P f K (Seen f K) (getObj r) (getObj (f r)):=.getObj (fun _ h hg=>.pure (.inl ⟨h,hg,rfl⟩)) (fun _ _ h=>.pure (.inr h))
theorem Ho(r:Nat):aO P f K SR (shape r) (shape (f r)):=.shape fun _ _ h=>.pure h
theorem mP{r:Nat}{o o':Obj}(hp:plain o=true)(hk:lI K o)(hc:∀c e fr,o≠.cells c e fr)(ho:o'=obj f o):aO P f K (fun _ _:Unit=>True) (setObj r o) (setObj (f r) o'):=.setObj hp hk hc ho (.pure trivial)
theorem jM(t:aZ):aO P f K (fun a b=>b=a/\P.info? t=some a) (typeInfo t) (typeInfo t):=by
 unfold typeInfo;refine jY ?_;cases h:P.info? t with
 |none=>exact aF
 |some i=>exact ak ⟨rfl,rfl⟩
theorem aW(t:aZ):aO P f K (fun a b=>b=a/\P.underlying t=some a) (underlying t) (underlying t):=by
 unfold underlying;refine jY ?_;cases h:P.underlying t with
 |none=>exact aF
 |some i=>exact ak ⟨rfl,rfl⟩
theorem kX(c:bz P)(t:aZ):aO P f K (fun a b=>b=a/\dI a=true) (zeroValue t) (zeroValue t):=by
 unfold zeroValue;refine ai (jM t) ?_;rintro _ i ⟨rfl,hi⟩;cases h:i.zero with
 |none=>exact aS
 |some z=>exact ak ⟨rfl,c.zero t i z hi h⟩
theorem iD(t:aZ):aO P f K (fun a b=>b=a/\∃i,P.info? t=some i/\i.size=a) (Go.sizeOf t) (Go.sizeOf t):=by unfold Go.sizeOf;refine ai (jM t) ?_;rintro _ i ⟨rfl,hi⟩;exact ak ⟨rfl,_,hi,rfl⟩
theorem ZJ(t:aZ):aO P f K (fun a b=>b=a) (isAgg t) (isAgg t):=by unfold isAgg;refine ai (aW t) ?_;rintro _ d ⟨rfl,_⟩;cases d<;>exact ak rfl
theorem D8(v:ae):aO P f K (fun a b=>b=a/\v=.int a.1 a.2) (asIntOf v) (asIntOf (val f v)):=by
 cases v with
 |int k n=>simp only[dK];exact ak ⟨rfl,rfl⟩
 |pointer a=>cases a<;>first|exact aF|exact aS
 |_=>exact aF
theorem Ht(v:ae):aO P f K (fun a b=>b=a) (asInt v) (asInt (val f v)):=by unfold asInt;refine ai (D8 v) ?_;rintro _ a ⟨rfl,_⟩;exact ak rfl
theorem NH(v:ae):aO P f K (fun a b=>b=a) (asBool v) (asBool (val f v)):=by
 cases v with
 |bool b=>simp only[dY];exact ak rfl
 |_=>exact aF
theorem afU(v:ae):aO P f K (fun a b=>b=vals f a) (asAgg v) (asAgg (val f v)):=by
 cases v with
 |agg cs=>simp only[dG];exact ak rfl
 |_=>exact aF
theorem Hu(v:ae):aO P f K (fun a b=>b=addr f a) (asAddr v) (asAddr (val f v)):=by
 cases v with
 |pointer a=>
  cases a with
  |none=>exact Dies.rel (s:=asAddr (.pointer none)) (dA .nilDeref)
  |some a=>simp only[aK,Option.map_some];exact ak rfl
 |_=>exact aF
theorem wu(v:ae):aO P f K (fun a b=>b=addr f a) (Instr.sureAddr v) (Instr.sureAddr (val f v)):=by
 cases v with
 |pointer a=>
  cases a with
  |none=>exact aF
  |some a=>simp only[aK,Option.map_some];exact ak rfl
 |_=>exact aF
theorem addr_add(f:Nat->Nat)(a:Addr)(n:Nat):addr f (a.add n)=(addr f a).add n:=by unfold Addr.add addr;split<;>rfl
theorem BK(a:Addr):∀(n i:Nat) (acc:Array ae),aO P f K (fun x y=>y=vals f x) (loadCellsFrom a i n acc) (loadCellsFrom (addr f a) i n (vals f acc))
|0,i,acc=>ak rfl
|n+1,i,acc=>by unfold loadCellsFrom;refine ai (by rw[<-addr_add];exact ac0 _ _) ?_;rintro x _ rfl;rw[show(vals f acc).push (val f x)=vals f (acc.push x) by simp[vals]];exact BK a n (i+1) _
theorem Ky(a:Addr)(n:Nat):aO P f K (fun x y=>y=vals f x) (loadCells a n) (loadCells (addr f a) n):=by have:=BK (P:=P) (f:=f) (K:=K) a n 0 #[];simpa[loadCells,vals] using this
theorem uS(a:Addr):∀(b:List ae) (i:Nat),aO P f K (fun _ _:Unit=>True) (storeCells a b i) (storeCells (addr f a) (b.map (val f)) i)
|[],i=>ak trivial
|x::rest,i=>by unfold storeCells;refine ai (by rw[<-addr_add];exact afM _ _ _) ?_;rintro _ _ _;exact uS a rest (i+1)
theorem D6(t:aZ)(a:Addr):aO P f K (fun x y=>y=val f x) (loadVar t a) (loadVar t (addr f a)):=by
 unfold loadVar;refine ai (ZJ t) ?_;rintro _ b rfl;cases b with
 |true=>
 refine ai (iD t) ?_;rintro _ n ⟨rfl,_⟩;refine ai (Ky a _) ?_;rintro cs _ rfl;exact ak (by simp)
 |false=>exact ac0 _ _
theorem Ph(f:Nat->Nat)(v:ae):(val f v).cells.size=v.cells.size:=by rw[Ah];simp
theorem XM(t:aZ)(a:Addr)(x:ae):aO P f K (fun _ _:Unit=>True) (storeVar t a x) (storeVar t (addr f a) (val f x)):=by
 unfold storeVar;refine ai (iD t) ?_;rintro _ n ⟨rfl,_⟩;rw[Ph,Ah];by_cases h:x.cells.size=n
 .have:=uS (P:=P) (f:=f) (K:=K) a x.cells.toList 0;simpa[vals,h] using this
 simp only[ne_eq,h,not_false_eq_true,je];exact Dies.rel ((dO _).bind _)
theorem zD(t:aZ)(cs:Array ae):aO P f K (fun a b=>b=addr f a) (newRow t cs) (newRow t (vals f cs)):=by unfold newRow;refine ai (wB rfl trivial rfl) ?_;rintro r _ rfl;exact ak rfl
theorem VH(t:aZ)(x:ae):aO P f K (fun a b=>b=addr f a) (newVar t x) (newVar t (val f x)):=by unfold newVar;rw[Ah];exact zD t _
theorem qi(t:aZ)(cs:Array ae)(off:Nat):aO P f K (fun x y=>y=val f x) (part t cs off) (part t (vals f cs) off):=by
 unfold part;refine ai (ZJ t) ?_;rintro _ b rfl;cases b with
 |true=>refine ai (iD t) ?_;rintro _ n ⟨rfl,_⟩;exact ak (by simp[vals,aaD])
 |false=>
  simp only[jg];cases cs[off]? with
  |none=>exact aF
  |some x=>exact ak rfl
theorem VG(r:Nat):aO P f K (fun a b=>a=none/\b=none) (viewAt r) (viewAt (f r)):=by
 unfold viewAt;refine ai (Ho r) ?_;intro a b h;rw[<-h.isSome];cases a with
 |some x=>exact ak ⟨rfl,rfl⟩
 |none=>
 refine ai (wE r) ?_;rintro o o' (⟨h1,_,rfl⟩|h)
 .cases o<;>first|exact ak ⟨rfl,rfl⟩|exact absurd h1 (by simp[plain])
 rcases h with⟨h1,h2⟩|⟨⟨x,rfl⟩,h2⟩
 .cases o<;>first|(cases h1;done)|skip;cases o'<;>first|(cases h2;done)|exact ak ⟨rfl,rfl⟩
 cases o'<;>first|(cases h2;done)|exact ak ⟨rfl,rfl⟩
theorem Nw(r:Nat):aO P f K (fun a b=>b=a.map fun x=>(addr f x.1,x.2)) (numberAt r) (numberAt (f r)):=by
 unfold numberAt;refine ai (Ho r) ?_;intro a b h;rw[<-h.isSome];cases a with
 |some x=>exact ak rfl
 |none=>
 refine ai (wE r) ?_;rintro o o' (⟨h1,_,rfl⟩|h)
 .cases o<;>first|exact ak rfl|exact absurd h1 (by simp[plain])
 rcases h with⟨h1,h2⟩|⟨⟨x,rfl⟩,h2⟩
 .cases o<;>first|(cases h1;done)|skip;cases o'<;>first|(cases h2;done)|exact ak rfl
 cases o'<;>first|(cases h2;done)|exact ak rfl
theorem jZ(a:Addr):aO P f K (fun x y=>y=(addr f x.1,x.2)) (behindNumber a) (behindNumber (addr f a)):=by unfold behindNumber;refine ai (Nw a.block) ?_;rintro x _ rfl;cases x<;>exact ak rfl
theorem XU(a:Addr)(l:Bool):aO P f K (fun x y=>y=val f x) (asNumber a l) (asNumber (addr f a) l):=by unfold asNumber;refine ai (wB rfl trivial rfl) ?_;rintro r _ rfl;exact ak (by simp[addr])
theorem acW(a:Addr):aO P f K (fun _ _:Unit=>True) (noView a) (noView (addr f a)):=by unfold noView;refine ai (VG a.block) ?_;rintro _ _ ⟨rfl,rfl⟩;exact ak trivial
theorem wF(a:Addr):aO P f K (fun x y=>y=x) (byteOf a) (byteOf (addr f a)):=by
 unfold byteOf;show aO P f K _ _ (match a.spot with|_=>_)
 cases hs:a.spot with
 |some s=>simp only[addr,hs];exact ak rfl
 |none=>
  simp only[addr,hs];refine jY ?_;refine ai (acW a) ?_;rintro _ _ _;refine ai (Ho a.block) ?_;intro x y h;cases x with
  |none=>exact aF
  |some x=>
   cases y with
   |none=>cases h.isSome
   |some y=>
    have⟨e,n⟩:=x;have⟨c,n'⟩:=y;obtain rfl:e=c:=by
     rcases h with h|⟨_,_,h1,h2⟩
     .cases h;rfl
     cases h1;cases h2;rfl
    dsimp only;split
    .exact ak rfl
    cases byteOfCell P P.depth e (a.off % P.cellsOf e) with
    |none=>exact aF
    |some b=>exact ak rfl
end
section
variable[Mps][Fr][Ext]{P:aH}{f:Nat->Nat}{K:Kd}
def Fix(P:aH)(f:Nat->Nat):Prop:=∀g,g<P.globals.size->f g=g
theorem Fix.lt{G}(hf:yZ f)(h:∀g,g<G->f g=g)(b):(f b<G)↔b<G:=by
 constructor
 .intro h1;have h2:=h (f b) h1;have h3:=hf _ _ h2;omega
 intro h1;rw[h b h1];exact h1
abbrev aJ(f:Nat->Nat):ae->ae->Prop:=fun x y=>y=val f x
theorem dV{α β:Type}{Q}{c:Prop}[Decidable c]{a b:Sem α}{a' b':Sem β}(h:c->aO P f K Q a a')(h':¬c->aO P f K Q b b'):aO P f K Q (if c then a else b) (if c then a' else b'):=by
 by_cases hc:c
 .rw[aY hc,aY hc];exact h hc
 rw[aU hc,aU hc];exact h' hc
theorem acV(a)(c b):aO P f K (fun x y=>y=addr f x) (partAt a c b) (partAt (addr f a) c b):=by unfold partAt;refine ai (wF a) ?_;rintro n _ rfl;refine ai (wF {block:=a.block,off:=a.off+c}) ?_;rintro m _ rfl;refine ak ?_;dsimp only;split<;>rfl
theorem AO(a)(g):aO P f K (fun x y=>y=addr f x) (fieldPlace a g) (fieldPlace (addr f a) g):=by
 unfold fieldPlace;refine ai (iD _) ?_;rintro _ n ⟨rfl,_⟩;split
 .exact acV a _ _
 exact ak (addr_add f a _).symm
theorem oD{α β:Type}{Q:α->β->Prop}(k)(x y)(c){s}:aO P f K Q (boundsPanic k x y c) s:=(Ae k x y c).rel
theorem gq{α β:Type}{Q:α->β->Prop}(e){s}:aO P f K Q (runtimePanic e) s:=(dA e).rel
theorem afV(hz:bz P)(t)(o):aO P f K (aJ f) (Instr.alloc t true o) (Instr.alloc t true o):=by unfold Instr.alloc;refine ai (kX hz t) ?_;rintro _ z ⟨rfl,hc⟩;refine ai (by have:=VH (P:=P) (f:=f) (K:=K) t z;rwa[cu hc f] at this) ?_;rintro a _ rfl;exact ak (by simp[aJ])
theorem ajO(t)(x):aO P f K (aJ f) (Instr.box t x) (Instr.box t (val f x)):=by unfold Instr.box;refine ai (VH t x) ?_;rintro a _ rfl;exact ak (by simp[aJ])
theorem acZ(t)(x):aO P f K (aJ f) (Instr.loadAt t x) (Instr.loadAt t (val f x)):=by unfold Instr.loadAt;refine ai (wu x) ?_;rintro a _ rfl;exact D6 t a
theorem aa7(t)(x y):aO P f K (fun _ _=>True) (Instr.storeAt t x y) (Instr.storeAt t (val f x) (val f y)):=by unfold Instr.storeAt;refine ai (wu x) ?_;rintro a _ rfl;exact XM t a y
theorem abb(t)(x)(n):aO P f K (aJ f) (Instr.fieldAt t x n) (Instr.fieldAt t (val f x) n):=by
 unfold Instr.fieldAt;refine ai (aW t) ?_;rintro _ d ⟨rfl,_⟩;cases d with
 |struct fields=>
  dsimp only;cases fields[n]? with
  |none=>exact aF
  |some g=>
  refine ai (wu x) ?_;rintro a _ rfl;refine ai (AO a g) ?_;rintro b _ rfl;exact ak (by simp[aJ])
 |_=>exact aF
theorem afQ(t)(x)(n):aO P f K (aJ f) (Instr.field t x n) (Instr.field t (val f x) n):=by
 unfold Instr.field;refine ai (aW t) ?_;rintro _ d ⟨rfl,_⟩;cases d with
 |struct fields=>
  dsimp only;cases fields[n]? with
  |none=>exact aF
  |some g=>
  refine ai (afU x) ?_;rintro cs _ rfl;exact qi _ _ _
 |_=>exact aF
theorem abd(x)(n):aO P f K (aJ f) (Instr.extract x n) (Instr.extract (val f x) n):=by
 unfold Instr.extract;cases x with
 |tuple a=>
  simp[cO,jg];cases a[n]? with
  |none=>exact aF
  |some v=>exact ak rfl
 |_=>exact aF
theorem afP(t)(x i):aO P f K (aJ f) (Instr.index t x i) (Instr.index t (val f x) (val f i)):=by
 unfold Instr.index;refine ai (D8 i) ?_;rintro _ ⟨k,n⟩ ⟨rfl,_⟩;refine ai (aW t) ?_;rintro _ d ⟨rfl,_⟩;split
 .rename_i elem cs _;simp[dG];refine dV (fun _=>?_) (fun _=>oD _ _ _ _);refine ai (iD _) ?_;rintro _ m ⟨rfl,_⟩;exact qi _ _ _
 .rename_i s;simp[bV]
  split
  .exact ak (by simp[aJ])
  exact oD _ _ _ _
 exact aF
theorem aba(t)(x i):aO P f K (aJ f) (Instr.indexAt t x i) (Instr.indexAt t (val f x) (val f i)):=by
 unfold Instr.indexAt;refine ai (D8 i) ?_;rintro _ ⟨k,n⟩ ⟨rfl,_⟩;refine ai (aW t) ?_;rintro _ d ⟨rfl,_⟩;have tail:∀(base:aB Addr) (len:Nat) (elem:aZ),aO P f K (aJ f)
   (underlying t >>= fun d=>match base with
    |some a=>if 0<=n/\n<(len) then Go.sizeOf elem >>= fun s=>pure (Value.pointer (some (a.add (n.toNat*s)))) else
      if (decide (len<=1)&&match d with|.array ..=>true|_=>false)=true then unsupported (.noEntry "op/indexAddr.an index out of range at an array of length 0 or 1 (ledger 616)") else boundsPanic k n (len) .index
    |none=>boundsPanic k n 0 .index)
   (underlying t >>= fun d=>match base.map (addr f) with
    |some a=>if 0<=n/\n<(len) then Go.sizeOf elem >>= fun s=>pure (Value.pointer (some (a.add (n.toNat*s)))) else
      if (decide (len<=1)&&match d with|.array ..=>true|_=>false)=true then unsupported (.noEntry "op/indexAddr.an index out of range at an array of length 0 or 1 (ledger 616)") else boundsPanic k n (len) .index
    |none=>boundsPanic k n 0 .index):=fun base len elem=>by
  refine ai (aW t) ?_;rintro _ d' ⟨rfl,_⟩;cases base with
  |none=>exact oD _ _ _ _
  |some a=>
  refine dV (fun _=>?_) (fun _=>dV (fun _=>aS) (fun _=>oD _ _ _ _));refine ai (iD _) ?_;rintro _ m ⟨rfl,_⟩;exact ak (by simp[aJ,addr_add])
 split
 .refine ai (wu x) ?_
  rintro a _ rfl;exact tail (some a) _ _
 .simp only[bI]
  exact tail _ _ _
 exact Dies.rel ((dO _).bind _)
theorem Lt{t}(ht:t<jT)(x):aO P f K (aJ f) (Instr.makeInterface t x) (Instr.makeInterface t (val f x)):=by unfold Instr.makeInterface;refine ai (aW t) ?_;rintro _ d ⟨rfl,_⟩;cases d<;>first|exact aF|exact ak (by simp[aJ,FN ht])
theorem XQ(g)(a b):aO P f K (aJ f) (Instr.makeFunc g a b) (Instr.makeFunc (fn f g) (vals f a) (vals f b)):=ak (by simp[aJ])
theorem LK(x)(y)(c):Calm P K (Instr.sliceBound x y c):=by
 unfold Instr.sliceBound;refine Calm.bind (Un x) fun a=>?_;have⟨k,n⟩:=a;dsimp only;split
 .exact iE _
 exact ab7 (Ae _ _ _ _)
theorem AL(x)(y)(c):aO P f K (fun a b=>b=a) (Instr.sliceBound x y c) (Instr.sliceBound (val f x) y c):=by
 unfold Instr.sliceBound;refine ai (D8 x) ?_;rintro _ ⟨k,n⟩ ⟨rfl,_⟩;dsimp only;split
 .exact ak rfl
 exact oD _ _ _ _
theorem sH(b)(len cap)(d hi c):aO P f K (fun a b=>b=a) (Instr.sliceBounds b len cap d hi c) (Instr.sliceBounds b len cap (d.map (val f)) (hi.map (val f)) (c.map (val f))):=by
 unfold Instr.sliceBounds;cases d<;>cases hi<;>cases c<;>dsimp[Option.map]<;>first
   |exact Dies.rel (.after (LK _ _ _) fun _=>.bind (dO _) _)
   |exact Dies.rel (.after _ fun _=>.bind _ _)
   |(refine ai (by first|exact ak rfl|exact AL _ _ _) ?_
     rintro m _ rfl;refine ai (by first|exact ak rfl|exact AL _ _ _) ?_
     rintro h _ rfl;refine ai (by first|exact ak rfl|exact AL _ _ _) ?_
     rintro l _ rfl;exact ak rfl)
theorem afN(t)(x)(b hi c):aO P f K (aJ f) (Instr.slice t x b hi c) (Instr.slice t (val f x) (b.map (val f)) (hi.map (val f)) (c.map (val f))):=by
 unfold Instr.slice;refine ai (aW t) ?_;rintro _ d ⟨rfl,_⟩;split
 .simp[bV,Option.isSome_map];refine dV (fun _=>Dies.rel ((dO _).bind _)) (fun _=>?_);refine ai (by simpa using sH _ _ _ b hi none) ?_;rintro⟨l,h,m⟩ _ rfl;exact ak (by simp[aJ])
 .simp[bI];refine ai (sH _ _ _ b hi c) ?_;rintro⟨l,h,m⟩ _ rfl;refine ai (iD _) ?_;rintro _ s ⟨rfl,_⟩;refine ak ?_;dsimp[aJ];rw[bI]
  split
  .rfl
  simp[Function.comp_def,addr_add]
 .refine ai (Hu x) ?_;rintro a _ rfl;refine ai (aW _) ?_;rintro _ e ⟨rfl,_⟩;cases e with
  |array n elem=>refine ai (sH _ _ _ b hi c) ?_;rintro⟨l,h,m⟩ _ rfl;refine ai (iD _) ?_;rintro _ s ⟨rfl,_⟩;refine ak ?_;dsimp[aJ];rw[bI];split<;>simp[addr_add]
  |_=>exact aF
 exact aF
theorem aa8(t)(x)(c hi b):aO P f K (aJ f) (Instr.sliceAt t x c hi b) (Instr.sliceAt t (val f x) (c.map (val f)) (hi.map (val f)) (b.map (val f))):=by
 unfold Instr.sliceAt;refine ai (aW t) ?_;rintro _ d ⟨rfl,_⟩;cases d with
 |array n elem=>
 refine ai (wu x) ?_;rintro a _ rfl;refine ai (sH _ _ _ c hi b) ?_;rintro⟨l,h,m⟩ _ rfl;refine ai (iD _) ?_;rintro _ s ⟨rfl,_⟩;refine ak ?_;dsimp[aJ];rw[bI];split<;>simp[addr_add]
 |_=>exact afN _ _ _ _ _
theorem MB{z}(hc:dI z=true)(f):vals f z.cells=z.cells:=by rw[<-Ah,cu hc f]
theorem Ci(f){z}(hc:dI z=true)(n):vals f ((Array.range n).map (z.cells[· % z.cells.size]!))=(Array.range n).map (z.cells[· % z.cells.size]!):=by
 have h:=MB hc f;unfold vals;rw[oM];refine jL fun i _=>?_;have h2:∀j,(z.cells[j]?).map _=z.cells[j]?:=fun j=>by rw[<-jg,h]
 simp[Function.comp]
 have:=h2 (i % z.cells.size)
 rw[getElem!_def];cases hx:z.cells[i % z.cells.size]? with
 |none=>exact dY f _
 |some x=>rw[hx] at this;simpa using this
theorem VL(hz:bz P)(t)(l c):aO P f K (aJ f) (Instr.makeSlice t l c) (Instr.makeSlice t (val f l) (val f c)):=by
 unfold Instr.makeSlice;refine ai (aW t) ?_;rintro _ d ⟨rfl,_⟩;cases d with
 |slice elem=>
 refine ai (Ht l) ?_;rintro _ len rfl;refine ai (Ht c) ?_;rintro _ cap rfl;refine ai (jM elem) ?_;rintro _ i ⟨rfl,_⟩;dsimp only;refine dV (fun _=>?_) (fun _=>?_)
 .refine Dies.rel ?_
  split
  .exact .bind (dA _) _
  split
  .exact .bind (dA _) _
  exact .after (Dx _) fun _=>.bind (dA _) _
 refine ai (Q:=fun _ _=>True) ?_ ?_
 .unfold askRoom
  exact dV (fun _=>acX) (fun _=>ak trivial)
 rintro _ _ _;refine ai (iD _) ?_;rintro _ s ⟨rfl,_⟩;refine dV (fun h0=>?_) (fun _=>?_)
 .rw[h0]
  refine ai (ak (Q:=fun a b=>b=a/\a=#[]) ⟨rfl,rfl⟩) ?_;rintro _ z ⟨rfl,rfl⟩;rw[show Array.range 0=#[] from rfl,DJ];refine ai (by have:=zD (P:=P) (f:=f) (K:=K) elem #[];simpa[vals] using this) ?_;rintro a _ rfl;exact ak (by simp[aJ])
 refine ai (kX hz elem) ?_;rintro _ z ⟨rfl,hc⟩;refine ai (ak (Q:=fun a b=>b=a/\a=z.cells) ⟨rfl,rfl⟩) ?_;rintro _ z2 ⟨rfl,rfl⟩;refine ai (by have:=zD (P:=P) (f:=f) (K:=K) elem ((Array.range ((IntKind.i64.wrap cap).toNat*s)).map (z.cells[· % z.cells.size]!));rwa[Ci f hc] at this) ?_;rintro a _ rfl;exact ak (by simp[aJ])
 |_=>exact aF
end
def V4{info fs i}(h:Made.reckonStruct info fs=some i):i.methods=#[]:=by unfold Made.reckonStruct at h;simp[Option.bind_eq_bind,Option.pure_def] at h;rw[xy] at h;have⟨r,_,h2⟩:=h;split at h2<;>(obtain rfl:=aN h2;rfl)
def V5{info d i}(h:Made.reckon info d=some i):i.methods=#[]:=by
 unfold Made.reckon at h;cases d<;>dsimp only at h<;>first|(cases h;done)|skip
 case struct fs=>exact V4 h
 all_goals
  simp only[Option.bind_eq_bind,Option.pure_def,xy] at h
 case slice e=>have⟨_,_,_,_,h⟩:=h;obtain rfl:=aN h;rfl
 case map k e=>have⟨_,_,_,_,_,_,_,_,h⟩:=h;obtain rfl:=aN h;rfl
 case chan d e=>have⟨_,_,_,_,h⟩:=h;obtain rfl:=aN h;rfl
 case func ps rs v=>have⟨_,_,h⟩:=h;obtain rfl:=aN h;rfl
 case array n e=>have⟨i',_,s,_,h⟩:=h;obtain rfl:=aN h;rfl
 case pointer e=>
  have⟨i',_,h⟩:=h;split at h
  .cases h
  .split at h
   .cases h
   rw[xy] at h;have⟨_,_,h⟩:=h;obtain rfl:=aN h;rfl
  rw[xy] at h;have⟨_,_,h⟩:=h;obtain rfl:=aN h;rfl
def V6{T}:∀(n) {t i},T.types.size<=t->Made.infoAt T n t=some i->i.methods=#[]
|0,_,_,_,h=>by cases h
|n+1,t,i,ht,h=>by unfold Made.infoAt at h;rw[aU (PG.2 ht),xy] at h;have⟨d,_,h⟩:=h;exact V5 h
def Jq{P:aH}{t i}(ht:P.types.size<=t)(h:P.info? t=some i):i.methods=#[]:=by have h':=h;unfold Tables.info? at h';rw[aU (PG.2 ht)] at h';exact V6 _ ht h'
end Go.Ren
