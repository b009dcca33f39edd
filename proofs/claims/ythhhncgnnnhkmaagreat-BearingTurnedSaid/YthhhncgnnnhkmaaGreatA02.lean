import Derived.Test.YthhhncgnnnhkmaaGreatA01
set_option linter.all false
namespace Go.Ev
def look{α:Type}(P:Program):Sem α→Option α
 |.pure a=>some a
 |.program k=>look P (k P)
 |_=>none
def atom:Value→Bool
 |.bool _|.int _ _|.float _ _|.complex _ _ _|.string _|.nilFunc|.nilIface|.pointer none|.map none|.chan none|.slice none _ _=>true
 |_=>false
mutual
def flat:Value→Bool
 |.bool _|.int _ _|.string _|.nilFunc|.nilIface|.pointer none|.map none|.chan none|.slice none _ _=>true
 |.agg ⟨cs⟩=>flats cs
 |.tuple ⟨cs⟩=>flats cs
 |_=>false
def flats:List Value→Bool
 |[]=>true
 |c::cs=>match flat c with
  |true=>flats cs
  |false=>false
end
def nth{α:Type}:List α→Nat→Option α
 |[],_=>none
 |a::l,k=>match k with
  |0=>some a
  |n+1=>nth l n
def cut{α:Type}:List α→Nat→Nat→Option (List α)
 |l,0,n=>takeN l n
 |[],_+1,n=>takeN [] n
 |_::l,k+1,n=>cut l k n
where takeN:List α→Nat→Option (List α)
 |_,0=>some []
 |[],_+1=>none
 |a::l,n+1=>(takeN l n).map (a::·)
def over{α:Type}:List α→Nat→List α→Option (List α)
 |l,0,vs=>over0 l vs
 |[],_+1,vs=>over0 [] vs
 |a::l,k+1,vs=>(over l k vs).map (a::·)
where over0:List α→List α→Option (List α)
 |l,[]=>some l
 |[],_::_=>none
 |_::l,v::vs=>(over0 l vs).map (v::·)
def single:Value→Bool
 |.agg _|.tuple _=>false
 |_=>true
variable(P:Program)
def loads(h:H)(a:Addr)(n:Nat):Option (List Value):=
 match a.spot,h.get a.block with
 |none,some (.cells c _ _)=>cut c a.off n
 |none,some (.shut c _)=>cut c a.off n
 |none,some (.half c _ _ _)=>cut c a.off n
 |_,_=>none
def stores(h:H)(a:Addr)(vs:List Value):Option H:=
 match a.spot,h.get a.block,vs.all single,Nat.blt a.block top with
 |none,some (.cells c e s),true,true=>match over c a.off vs with
  |some c'=>some (h.put a.block (.cells c' e s))
  |none=>none
 |none,some (.half c q e z),true,true=>match over c a.off vs with
  |some c'=>some (h.put a.block (.half c' q e z))
  |none=>none
 |_,_,_,_=>none
def aggB(d:TypeDesc):Bool:=
 match d with
 |.struct _|.array _ _=>true
 |_=>false
def loadV(h:H)(t:TypeId)(a:Addr):Option Value:=
 match P.underlying t,P.info? t with
 |some d,some i=>match aggB d with
  |true=>match loads h a i.size with
   |some cs=>some (.agg ⟨cs⟩)
   |none=>none
  |false=>match loads h a 1 with
   |some [v]=>some v
   |_=>none
 |_,_=>none
def storeV(h:H)(t:TypeId)(a:Addr)(v:Value):Option H:=
 match P.info? t with
 |some i=>match Nat.beq v.cells.toList.length i.size with
  |true=>stores h a v.cells.toList
  |false=>none
 |none=>none
def partV(t:TypeId)(cs:List Value)(off:Nat):Option Value:=
 match P.underlying t,P.info? t with
 |some d,some i=>match aggB d with
  |true=>match cut cs off i.size with
   |some l=>some (.agg ⟨l⟩)
   |none=>none
  |false=>nth cs off
 |_,_=>none
def zeroOf(t:TypeId):Option Value:=
 match P.info? t with
 |some i=>match i.zero with
  |some z=>match flat z with
   |true=>some z
   |false=>none
  |none=>none
 |none=>none
def small(i:Int)(y:Nat):Option Nat:=
 match i with
 |.ofNat n=>match Nat.blt n y with
  |true=>some n
  |false=>none
 |.negSucc _=>none
def soft:Nat:=2 ^ 60
def boundV(x:Option Value)(d y:Nat):Option Nat:=
 match x with
 |none=>some d
 |some (.int _ i)=>small i (y+1)
 |some _=>none
def plainAddr(a:Addr)(n:Nat):Option Addr:=
 match a.spot with
 |none=>some ⟨a.block,a.off+n,none⟩
 |some _=>none
def boundsV(lo hi mx:Option Value)(n lim:Nat):Option (Nat×Nat×Option Nat):=
 match mx with
 |none=>match boundV hi n lim with
  |some h=>match boundV lo 0 h with
   |some l=>some (l,h,none)
   |none=>none
  |none=>none
 |some _=>match hi with
  |none=>none
  |some _=>match boundV mx lim lim with
   |some m=>match boundV hi n m with
    |some h=>match boundV lo 0 h with
     |some l=>some (l,h,some m)
     |none=>none
    |none=>none
   |none=>none
def partOf(a:Addr)(size l h m:Nat):Option Value:=
 match plainAddr a (l*size),Nat.blt m soft with
 |some a',true=>some (.slice (some (match Nat.beq m l with|true=>a|false=>a')) (h-l) (m-l))
 |_,_=>none
def sliceV(t:TypeId)(x:Value)(lo hi mx:Option Value):Option Value:=
 match P.underlying t,x with
 |some (.slice e),.slice a n cap=>
  match Nat.blt cap soft with
  |true=>match boundsV lo hi mx n cap,P.info? e with
   |some (l,h,m),some i=>match a with
    |some a=>partOf a i.size l h (m.getD cap)
    |none=>some (.slice none (h-l) (m.getD cap-l))
   |_,_=>none
  |false=>match boundsV lo hi mx n n,P.info? e,a with
   |some (l,h,some m),some i,some a=>partOf a i.size l h m
   |some (0,h,none),some _,some ⟨b,o,none⟩=>some (.slice (some ⟨b,o,none⟩) h cap)
   |_,_,_=>none
 |some (.array n e),.pointer (some a)=>arr n e a
 |some (.pointer p),.pointer (some a)=>match P.underlying p with
  |some (.array n e)=>arr n e a
  |_=>none
 |_,_=>none
where arr (n:Nat) (e:TypeId) (a:Addr):Option Value:=
  match boundsV lo hi mx n n,P.info? e with
  |some (l,h,m),some i=>partOf a i.size l h (m.getD n)
  |_,_=>none
def indexV(t:TypeId)(x i:Value):Option Value:=
 match i with
 |.int _ i=>match P.underlying t,x with
  |some (.array n e),.pointer (some a)=>at_ n e a i
  |some (.slice e),.slice (some a) n _=>at_ n e a i
  |_,_=>none
 |_=>none
where at_ (n:Nat) (e:TypeId) (a:Addr) (i:Int):Option Value:=
  match small i n,P.info? e with
  |some k,some j=>match plainAddr a (k*j.size) with
   |some a'=>some (.pointer (some a'))
   |none=>none
  |_,_=>none
def fieldV(t:TypeId)(x:Value)(f:Nat):Option Value:=
 match P.underlying t,x with
 |some (.struct fs),.pointer (some a)=>match nth fs.toList f with
  |some g=>match P.info? g.type with
   |some i=>match Nat.beq i.size 0 with
    |true=>none
    |false=>match plainAddr a g.offset with
     |some a'=>some (.pointer (some a'))
     |none=>none
   |none=>none
  |none=>none
 |_,_=>none
def roomB(i:TypeInfo)(z:Value)(k:Nat):Bool:=
 match Nat.blt k 1000000,Nat.blt i.bytes 1000000,Nat.beq i.size 0 with
 |true,true,false=>Nat.beq z.cells.toList.length i.size&&z.cells.toList.all atom
 |_,_,_=>false
def appendV(h:H)(t:TypeId)(s x:Value):Option (Value×H):=
 match P.underlying t,s,x with
 |some (.slice e),.slice base n cap,.slice _ 0 _=>match Nat.ble n cap,P.info? e with
  |true,some _=>some (.slice base n cap,h)
  |_,_=>none
 |some (.slice e),.slice base n cap,.slice (some xb) m _=>match P.info? e,zeroOf P e with
  |some i,some z=>match loads h xb (m*i.size),roomB i z (n+m) with
   |some new,true=>match new.all single with
    |true=>match base with
     |none=>match n,cap with
      |0,0=>match h.new (.cells new e (some i.size)) with
       |some (r,h')=>some (.slice (some ⟨r,0,none⟩) m soft,h')
       |none=>none
      |_,_=>none
     |some a=>match Nat.blt cap soft with
      |true=>match Nat.ble (n+m) cap with
       |true=>match plainAddr a (n*i.size) with
        |some a'=>match stores h a' new with
         |some h'=>some (.slice (some a) (n+m) cap,h')
         |none=>none
        |none=>none
       |false=>match loads h a (n*i.size) with
        |some old=>match h.new (.cells (old++new) e (some i.size)) with
         |some (r,h')=>some (.slice (some ⟨r,0,none⟩) (n+m) soft,h')
         |none=>none
        |none=>none
      |false=>match a with
       |⟨b,0,none⟩=>match h.get b,Nat.blt b top with
        |some (.cells c e' (some k)),true=>match Nat.beq c.length (n*i.size),Nat.beq k i.size,Nat.beq e' e with
         |true,true,true=>match(h.kill b).new (.cells (c++new) e' (some k)) with
          |some (r,h')=>some (.slice (some ⟨r,0,none⟩) (n+m) soft,h')
          |none=>none
         |_,_,_=>none
        |_,_=>none
       |_=>none
    |false=>none
   |_,_=>none
  |_,_=>none
 |_,_,_=>none
def sackV(h:H)(t:TypeId)(s x:Value):Option (Value×H):=
 match P.underlying t,s,x with
 |some (.slice e),.slice (some ⟨b,0,none⟩) n cap,.slice (some xb) 1 _=>match h.get b,P.info? e,zeroOf P e with
  |some (.sack c e' k),some i,some z=>match loads h xb (1*i.size),roomB i z (n+1)&&Nat.blt b top && !Nat.blt cap soft&&Nat.beq c.length n&&(c.all fun l=>Nat.beq l.length k)&&Nat.beq k i.size&&Nat.beq e' e && !Nat.beq xb.block b with
   |some new,true=>match new.all single with
    |true=>match(h.kill b).new (.sack (c++[new]) e' k) with
     |some (r,h')=>some (.slice (some ⟨r,0,none⟩) (n+1) soft,h')
     |none=>none
    |false=>none
   |_,_=>none
  |_,_,_=>none
 |_,_,_=>none
def appendW(h:H)(t:TypeId)(s x:Value):Option (Value×H):=
 match appendV P h t s x with
 |some r=>some r
 |none=>sackV P h t s x
def copyV(h:H)(t:TypeId)(d x:Value):Option (Value×H):=
 match P.underlying t,d,x with
 |some (.slice e),.slice db dn _,.slice xb xn _=>match P.info? e with
  |some i=>
   let n:=match Nat.ble xn dn with|true=>xn|false=>dn
   match(match xb with|none=>(match n with|0=>some []|_+1=>none)|some b=>loads h b (n*i.size)) with
   |some cs=>match db with
    |none=>some (.int .i64 n,h)
    |some a=>match stores h a cs with
     |some h'=>some (.int .i64 n,h')
     |none=>none
   |none=>none
  |none=>none
 |_,_,_=>none
def repeated{α:Type}(z:List α):Nat→List α
 |0=>[]
 |n+1=>z++repeated z n
def flatE(es:List MapEntry):Bool:=es.all fun e=>match flat e.key with|true=>flat e.val|false=>false
inductive R (α:Type) where
 |fail
 |one (a:α)
 |more (a:α) (r:R α)
def R.ofOption{α:Type}:Option α→R α
 |none=>.fail
 |some a=>.one a
def R.app{α:Type}:R α→R α→R α
 |.fail,_=>.fail
 |.one a,s=>.more a s
 |.more a r,s=>.more a (r.app s)
def R.bind{α β:Type}:R α→(α→R β)→R β
 |.fail,_=>.fail
 |.one a,f=>f a
 |.more a r,f=>(f a).app (r.bind f)
def opts(ρ:Operand→Option Value):List Operand→Option (List Value)
 |[]=>some []
 |x::xs=>match ρ x,opts ρ xs with
  |some v,some vs=>some (v::vs)
  |_,_=>none
def opt(ρ:Operand→Option Value):Option Operand→Option (Option Value)
 |none=>some none
 |some x=>match ρ x with
  |some v=>some (some v)
  |none=>none
def places:List (Nat×TypeId)→Option (List (Nat×Nat))
 |[]=>some []
 |(off,t)::fs=>match P.info? t,places fs with
  |some i,some l=>some ((off,i.size)::l)
  |_,_=>none
def flatO(v:Option Value):Option Value:=
 match v with
 |some v=>match flat v with
  |true=>some v
  |false=>none
 |none=>none
def fast0(op:BinOp)(a b:Value):Option Value:=
 match a,b with
 |.int .i64 (.ofNat m),.int .i64 (.ofNat n)=>match op with
  |.add=>match Nat.blt (m+n) 4611686018427387904 with
   |true=>some (.int .i64 (.ofNat (m+n)))
   |false=>none
  |.eql=>some (.bool (Nat.beq m n))
  |.neq=>some (.bool (!Nat.beq m n))
  |.lss=>some (.bool (Nat.blt m n))
  |.gtr=>some (.bool (Nat.blt n m))
  |.leq=>some (.bool (Nat.ble m n))
  |.geq=>some (.bool (Nat.ble n m))
  |_=>none
 |_,_=>none
def fastB(op:BinOp)(a b:Value):Option Value:=
 match op with
 |.eql|.neq|.lss|.gtr|.leq|.geq=>fast0 op a b
 |_=>none
def nilB:TypeDesc→Value→Value→Bool
 |.slice _,.slice (some _) _ _,.slice none _ _=>true
 |.slice _,.slice none _ _,.slice (some _) _ _=>true
 |.pointer _,.pointer (some _),.pointer none=>true
 |.pointer _,.pointer none,.pointer (some _)=>true
 |.map _ _,.map (some _),.map none=>true
 |.map _ _,.map none,.map (some _)=>true
 |.func _ _ _,.func _ _ _,.nilFunc=>true
 |.func _ _ _,.nilFunc,.func _ _ _=>true
 |_,_,_=>false
def pureV(ρ:Operand→Option Value)(o:Op):Option Value:=
 match o with
 |.move x|.assign x=>ρ x
 |.pick c a b=>match ρ c with
  |some (.bool true)=>ρ a
  |some (.bool false)=>ρ b
  |_=>none
 |.nilCheck x=>match ρ x with
  |some (.pointer (some a))=>some (.pointer (some a))
  |_=>none
 |.fieldAddr t x f=>match ρ x with
  |some v=>fieldV P t v f
  |none=>none
 |.indexAddr t x i=>match ρ x,ρ i with
  |some v,some i=>indexV P t v i
  |_,_=>none
 |.slice t x lo hi mx=>match ρ x,opt ρ lo,opt ρ hi,opt ρ mx with
  |some v,some lo,some hi,some mx=>sliceV P t v lo hi mx
  |_,_,_,_=>none
 |.field t x f=>match P.underlying t,ρ x with
  |some (.struct fs),some (.agg ⟨cs⟩)=>match nth fs.toList f with
   |some g=>partV P g.type cs g.offset
   |none=>none
  |_,_=>none
 |.index t x i=>match P.underlying t,ρ x,ρ i with
  |some (.array n e),some (.agg ⟨cs⟩),some (.int _ i)=>match small i n,P.info? e with
   |some k,some j=>partV P e cs (k*j.size)
   |_,_=>none
  |some .string,some (.string s),some (.int k i)=>flatO (look P (Instr.index t (.string s) (.int k i)))
  |_,_,_=>none
 |.extract x k=>match ρ x with
  |some (.tuple ⟨vs⟩)=>nth vs k
  |_=>none
 |.makeFunc fn a b=>match opts ρ a.toList,opts ρ b.toList,(match fn with|.func _=>true|_=>false) with
  |some a,some b,true=>some (.func fn ⟨a⟩ ⟨b⟩)
  |_,_,_=>none
 |.build t ps=>match opts ρ (ps.toList.map (·.2)),zeroOf P t with
  |some vs,some z=>match P.underlying t with
   |some (.struct fs)=>match places P (fs.toList.map fun f=>(f.offset,f.type)) with
    |some pl=>match Instr.fill (fun i=>nth pl i) z.cells ((ps.toList.map (·.1)).zip vs) with
     |some cs=>some (.agg cs)
     |none=>none
    |none=>none
   |some (.array _ e)=>match P.info? e with
    |some j=>match Instr.fill (fun i=>some (i*j.size,j.size)) z.cells ((ps.toList.map (·.1)).zip vs) with
     |some cs=>some (.agg cs)
     |none=>none
    |none=>none
   |_=>none
  |_,_=>none
 |.call c=>match c.callee,opts ρ c.args.toList with
  |.builtin .len,some [.slice _ n _]=>match(match c.argTypes[0]? with|some t=>P.underlying t|none=>none) with
   |some (.slice _)=>some (.int .i64 n)
   |_=>none
  |.builtin .cap,some [.slice _ _ n]=>match Nat.blt n soft,(match c.argTypes[0]? with|some t=>P.underlying t|none=>none) with
   |true,some (.slice _)=>some (.int .i64 n)
   |_,_=>none
  |.builtin .min,some (x::xs)=>match flats (x::xs) with
   |true=>flatO (look P (Builtin.min_ #[] 0 ⟨x::xs⟩))
   |false=>none
  |.builtin .max,some (x::xs)=>match flats (x::xs) with
   |true=>flatO (look P (Builtin.max_ #[] 0 ⟨x::xs⟩))
   |false=>none
  |_,_=>none
 |.binOp op t x y _=>match ρ x,ρ y with
  |some a,some b=>match fastB op a b with
   |some v=>some v
   |none=>match flat a,flat b with
    |true,true=>match look P (eqGuard op t x y a b) with
     |some _=>flatO (look P (binOp op t a b))
     |none=>none
    |_,_=>match P.underlying t with
     |some d=>match nilB d a b with
      |true=>match op with
       |.eql=>some (.bool false)
       |.neq=>some (.bool true)
       |_=>none
      |false=>none
     |none=>none
  |_,_=>none
 |.unOp op _ x=>match ρ x with
  |some a=>match flat a with
   |true=>flatO (look P (Op.unary op a))
   |false=>none
  |none=>none
 |.convert s d x=>match ρ x with
  |some a=>match flat a with
   |true=>flatO (look P (convert s d a))
   |false=>none
  |none=>none
 |_=>none
def pureB(o:Op):Bool:=
 match o with
 |.move _|.assign _|.pick .. | .nilCheck _|.fieldAddr .. | .indexAddr .. | .slice .. | .field .. | .index .. | .extract .. | .makeFunc .. | .build .. | .binOp .. | .unOp .. | .convert ..=>true
 |.call c=>match c.callee with
  |.builtin .len|.builtin .cap|.builtin .min|.builtin .max=>true
  |_=>false
 |_=>false
def made(r:Option (Nat×H))(k:Nat→Value):R (Value×H):=
 match r with
 |some (b,h')=>.one (k b,h')
 |none=>.fail
def done(r:Option H):R (Value×H):=
 match r with
 |some h'=>.one (.tuple #[],h')
 |none=>.fail
def eachNext(h:H)(r m since clock:Nat)(seen:List Nat)(e:MapEntry):List MapEntry→R (Value×H)
 |[]=>.one (.tuple #[.bool true,e.key,e.val],h.put r (.iter (some m) since (seen++[e.born]) clock))
 |e'::es=>.more (.tuple #[.bool true,e.key,e.val],h.put r (.iter (some m) since (seen++[e.born]) clock)) (eachNext h r m since clock seen e' es)
def heapV(ρ:Operand→Option Value)(o:Op)(h:H):R (Value×H):=
 match o with
 |.alloc t=>match zeroOf P t with
  |some z=>made (h.new (.cells z.cells.toList t none)) fun b=>.pointer (some ⟨b,0,none⟩)
  |none=>.fail
 |.box t x=>match ρ x with
  |some v=>match v.cells.toList.all single with
   |true=>made (h.new (.cells v.cells.toList t none)) fun b=>.pointer (some ⟨b,0,none⟩)
   |false=>.fail
  |none=>.fail
 |.load t x=>match ρ x with
  |some (.pointer (some a))=>match loadV P h t a with
   |some v=>.one (v,h)
   |none=>.fail
  |_=>.fail
 |.store t x y=>match ρ x,ρ y with
  |some (.pointer (some a)),some v=>done (storeV P h t a v)
  |_,_=>.fail
 |.makeMap t none=>match P.underlying t with
  |some (.map _ _)=>made (h.new (.map [] 0)) fun b=>.map (some b)
  |_=>.fail
 |.buildSlice t len ps=>match opts ρ (ps.toList.map (·.2)),P.underlying t with
  |some vs,some (.slice e)=>match P.info? e,zeroOf P e with
   |some j,some z=>match Nat.ble (len*j.size) (2 ^ 24),Nat.beq z.cells.toList.length j.size,Nat.beq j.size 0 with
    |true,true,false=>match Instr.fill (fun i=>some (i*j.size,j.size)) ⟨repeated z.cells.toList len⟩ ((ps.toList.map (·.1)).zip vs) with
     |some ⟨cs⟩=>made (h.new (.cells cs e none)) fun b=>.slice (some ⟨b,0,none⟩) len len
     |none=>.fail
    |_,_,_=>.fail
   |_,_=>.fail
  |_,_=>.fail
 |.makeSlice t l c=>match P.underlying t,ρ l,ρ c with
  |some (.slice e),some (.int _ l),some (.int _ c)=>match small l 1000000,small c 1000000,P.info? e,zeroOf P e with
   |some l,some c,some j,some z=>match Nat.ble l c,Nat.beq z.cells.toList.length j.size,Nat.beq j.size 0,Nat.blt j.bytes 1000000 with
    |true,true,false,true=>made (h.new (.cells (repeated z.cells.toList c) e none)) fun b=>.slice (some ⟨b,0,none⟩) l c
    |_,_,_,_=>.fail
   |_,_,_,_=>.fail
  |_,_,_=>.fail
 |.lookup t x i ok=>match P.underlying t,ρ x,ρ i with
  |some (.map k e),some (.map (some r)),some i=>match h.get r,flat i with
   |some (.map es _),true=>match look P (Instr.checkKey es.isEmpty 10000 k i),look P (Instr.findKey k i es),zeroOf P e with
    |some _,some (some (_,v)),_=>match flat v with
     |true=>.one (match ok with|true=>.tuple #[v,.bool true]|false=>v,h)
     |false=>.fail
    |some _,some none,some z=>.one (match ok with|true=>.tuple #[z,.bool false]|false=>z,h)
    |_,_,_=>.fail
   |_,_=>.fail
  |_,_,_=>.fail
 |.mapUpdate t m k x|.insert t m k x=>match P.underlying t,ρ m,ρ k,ρ x with
  |some (.map kt _),some (.map (some r)),some k,some x=>match h.get r,flat k,flat x,Nat.blt r top with
   |some (.map es c),true,true,true=>match look P (Instr.checkKey false 10000 kt k),look P (Instr.findKey kt k es) with
    |some _,some (some (i,_))=>match look P (Instr.keyThatStays (((es[i]?).map (·.key)).getD k) k) with
     |some k'=>.one (.tuple #[],h.put r (.map (es.modify i fun e=>{e with key:=k',val:=x}) c))
     |none=>.fail
    |some _,some none=>.one (.tuple #[],h.put r (.map (es++[{key:=k,val:=x,born:=c}]) (c+1)))
    |_,_=>.fail
   |_,_,_,_=>.fail
  |_,_,_,_=>.fail
 |.range t x=>match P.underlying t,ρ x with
  |some (.map _ _),some (.map (some r))=>match h.get r with
   |some (.map _ c)=>made (h.new (.iter (some r) c [] c)) fun b=>.pointer (some ⟨b,0,none⟩)
   |_=>.fail
  |_,_=>.fail
 |.next x false=>match ρ x with
  |some (.pointer (some ⟨r,0,none⟩))=>match h.get r,Nat.blt r top with
   |some (.iter (some m) since seen stepped),true=>match h.get m with
    |some (.map es c)=>match es.all fun e=>Nat.blt e.born since,(match seen with | []=>true|_::_=>es.any fun e=>Nat.blt e.born stepped) with
     |true,true=>match es.filter fun e=>!seen.contains e.born with
      |[]=>.one (.tuple #[.bool false],h)
      |e::l=>eachNext h r m since c seen e l
     |_,_=>.fail
    |_=>.fail
   |_,_=>.fail
  |_=>.fail
 |.entry x=>match ρ x with
  |some (.pointer (some ⟨r,0,none⟩))=>match h.get r with
   |some (.iter (some m) _ seen stepped)=>match h.get m,seen.getLast? with
    |some (.map es c),some stamp=>match Nat.beq c stepped,es.find? fun e=>Nat.beq e.born stamp with
     |true,some e=>.one (.tuple #[e.key,e.val],h)
     |_,_=>.fail
    |_,_=>.fail
   |_=>.fail
  |_=>.fail
 |.call c=>match c.callee,opts ρ c.args.toList with
  |.builtin .append,some [s,x]=>match c.argTypes[0]?,c.argTypes[1]? with
   |some t,some t1=>match Nat.beq t t1,appendW P h t s x with
    |true,some r=>.one r
    |_,_=>.fail
   |_,_=>.fail
  |.builtin .copy,some [d,x]=>match c.argTypes[0]? with
   |some t=>.ofOption (copyV P h t d x)
   |none=>.fail
  |.builtin .len,some [.map (some r)]=>.fail
  |_,_=>.fail
 |_=>.fail
inductive Ex where
 |normal|ret
 |exit (id:Nat)
structure St where
 t:T Value
 h:H
 marks:List Nat
def setT(t:T Value)(n:Nat)(d:Option Tmp)(v:Value):Option (T Value):=
 match d with
 |none=>some t
 |some d=>match Nat.blt d n,Nat.blt d top with
  |true,true=>some (T.put T.deep t d (some v))
  |_,_=>none
def evalO(t:T Value):Operand→Option Value
 |.tmp d=>t.get d
 |.const v=>match flat v with|true=>some v|false=>none
 |.global _=>none
 |.func f=>some (.func (.func f) #[] #[])
def wantedB(ops:List Oper)(t:T Value)(o:Oper):Option Bool:=
 match o.guard with
 |none=>some true
 |some (j,want)=>match nth ops j with
  |some oj=>match oj.dst with
   |some d=>match t.get d with
    |some (.bool b)=>some (b==want)
    |some (.tuple _)=>some false
    |_=>none
   |none=>some false
  |none=>some false
def callee(v:Value)(args:List Value):Option (Fn×List Value):=
 match v with
 |.func (.func f) ⟨a⟩ ⟨b⟩=>some (.func f,a++args++b)
 |.func (.yield l) ⟨a⟩ ⟨_⟩=>some (.yield l,a++args)
 |_=>none
def predB(ops:List Oper):Nat→Nat→Nat→Bool
 |0,_,_=>false
 |k+1,j,i=>match nth ops i with
  |some o=>o.after.toList.any fun e=>match Region.binds .any e with
   |true=>match Nat.beq e.on j with
    |true=>true
    |false=>predB ops k j e.on
   |false=>false
  |none=>false
def ordB(ops:List Oper)(i j:Nat):Bool:=
 match predB ops ops.length i j with
 |true=>true
 |false=>predB ops ops.length j i
def readsB(ops:List Oper)(o:Oper):List Nat:=
 (o.op.operands.toList.filterMap fun|.tmp d=>some d|_=>none)++(match o.guard with
  |some (j,_)=>match nth ops j with
   |some oj=>oj.dst.toList
   |none=>[]
  |none=>[])
def upto:Nat→List Nat
 |0=>[]
 |n+1=>upto n++[n]
def drawOK(ops:List Oper):Bool:=
 (upto ops.length).all fun i=>match nth ops i with
  |some oi=>(oi.after.toList.all fun e=>match Region.binds .any e with|true=>Nat.blt e.on i|false=>true)&&
   (match oi.dst with
   |some d=>(upto ops.length).all fun j=>match Nat.beq i j with
    |true=>true
    |false=>match nth ops j with
     |some oj=>match(match oj.dst with|some d'=>Nat.beq d' d|none=>false),(readsB ops oj).any fun d'=>Nat.beq d' d with
      |false,false=>true
      |_,_=>ordB ops i j
     |none=>false
   |none=>true)
  |none=>false
structure Rec where
 i:Nat
 h0:H
 h1:H
def lay(h1:H):List Nat→T Ob→T Ob
 |[],t=>t
 |b::l,t=>T.put T.deep (lay h1 l t) b (h1.get b)
def narrow(t:T Value)(o:Op)(m:T Ob):T Ob:=
 match(match o with|.load _ x=>some x|.store _ x _=>some x|_=>none) with
 |some x=>match evalO t x with
  |some (.pointer (some a))=>match m.get a.block,Nat.blt a.block top with
   |some ob,true=>T.put T.deep .nil a.block (some ob)
   |_,_=>.nil
  |_=>m
 |none=>m
def Under(m m':T Ob):Prop:=∀b o,m.get b=some o→m'.get b=some o
theorem narrow_under(t:T Value)(o:Op)(m:T Ob):Under (narrow t o m) m:=fun b ob h=>by
 unfold narrow at h
 split at h
 .split at h
  .split at h
   .rename_i hg hb
    rw[Nat.blt_eq] at hb
    rw[T.get_put _ _ _ _ _ (top_deep hb)] at h
    split at h
    .rename_i e;cases h;subst e;exact hg
    .cases h
   .cases h
  .exact h
 .exact h
def behind(ops:List Oper)(i:Nat)(t:T Ob):List Rec→T Ob
 |[]=>t
 |r::rs=>match predB ops ops.length r.i i with
  |true=>lay r.h1 r.h1.log (behind ops i t rs)
  |false=>behind ops i t rs
def untouched(h:H):List Nat→Bool
 |[]=>true
 |b::l=>match h.get b with
  |none=>untouched h l
  |some _=>false
def apartB(ops:List Oper)(r:Rec):List Rec→Bool
 |[]=>true
 |s::rs=>match ordB ops r.i s.i with
  |true=>apartB ops r rs
  |false=>match untouched r.h0 s.h1.log,untouched s.h0 r.h1.log with
   |true,true=>apartB ops r rs
   |_,_=>false
def allApart(ops:List Oper):List Rec→Bool
 |[]=>true
 |r::rs=>match apartB ops r rs with
  |true=>allApart ops rs
  |false=>false
section
variable(P:Program)(inv:Fn→List Value→H→R (Value×H))
def oneOp(t:T Value)(h:H)(o:Op):R (Value×H):=
 match pureB o with
 |true=>match pureV P (evalO t) o with
  |some v=>.one (v,h)
  |none=>.fail
 |false=>match o with
  |.call c=>match c.callee with
   |.value f=>match evalO t f,opts (evalO t) c.args.toList with
    |some v,some args=>match callee v args with
     |some (g,args)=>inv g args h
     |none=>.fail
    |_,_=>.fail
   |_=>heapV P (evalO t) o h
  |_=>heapV P (evalO t) o h
def opsL(n:Nat)(all:List Oper):List Oper→St→R St
 |[],s=>.one s
 |o::l,s=>match wantedB all s.t o with
  |some true=>(oneOp P inv s.t s.h o.op).bind fun x=>match setT s.t n o.dst x.1 with
    |some t=>opsL n all l ⟨t,x.2,s.marks⟩
    |none=>.fail
  |some false=>match setT s.t n o.dst (.tuple #[]) with
   |some t=>opsL n all l ⟨t,s.h,s.marks⟩
   |none=>.fail
  |none=>.fail
def regD(n:Nat)(all:List Oper)(t0:T Ob):List Oper→Nat→T Value→Nat→List Rec→Option (T Value×Nat×List Rec)
 |[],_,t,nx,rs=>some (t,nx,rs)
 |o::l,i,t,nx,rs=>match wantedB all t o with
  |some true=>match pureB o.op with
   |true=>match pureV P (evalO t) o.op with
    |some v=>match setT t n o.dst v with
     |some t=>regD n all t0 l (i+1) t nx rs
     |none=>none
    |none=>none
   |false=>match oneOp P inv t ⟨behind all i t0 rs,nx,[]⟩ o.op with
    |.one (v,h1)=>match setT t n o.dst v with
     |some t=>regD n all t0 l (i+1) t h1.next (⟨i,⟨behind all i t0 rs,nx,[]⟩,h1⟩::rs)
     |none=>none
    |_=>none
  |some false=>match setT t n o.dst (.tuple #[]) with
   |some t=>regD n all t0 l (i+1) t nx rs
   |none=>none
  |none=>none
def layAll(t:T Ob):List Rec→T Ob
 |[]=>t
 |r::rs=>lay r.h1 r.h1.log (layAll t rs)
def logAll:List Rec→List Nat
 |[]=>[]
 |r::rs=>r.h1.log++logAll rs
def drawn(n:Nat)(ops:List Oper)(s:St):R St:=
 match drawOK ops with
 |true=>match regD P inv n ops s.h.t ops 0 s.t s.h.next [] with
  |some (t,nx,rs)=>match allApart ops rs with
   |true=>.one ⟨t,⟨layAll s.h.t rs,nx,logAll rs++s.h.log⟩,s.marks⟩
   |false=>.fail
  |none=>.fail
 |false=>.fail
def loopN(f:St→R (Ex×St)):Nat→St→R (Ex×St)
 |0,_=>.fail
 |k+1,s=>(f s).bind fun x=>match x.1 with
  |.normal=>loopN f k x.2
  |_=>.one x
def jumpEx(j:Option Code):Option Ex:=
 match j with
 |none=>some .normal
 |some .ret=>some .ret
 |some (.exit id)=>some (.exit id)
 |_=>none
def ranged(s:St)(f:Operand)(l:Nat)(marks:List Nat)(h:H):R (Ex×St):=
 match evalO s.t f with
 |none=>.fail
 |some v=>match callee v [.func (.yield l) #[] #[]] with
  |none=>.fail
  |some (g,args)=>(inv g args h).bind fun x=>match x.2.get l,Nat.blt l top with
   |some (.loop st j f' t' n' ps' as' b' d'),true=>match st with
    |.busy=>.fail
    |_=>match jumpEx j with
     |some e=>.one (e,⟨s.t,x.2.put l (.loop .exhausted j f' t' n' ps' as' b' d'),marks⟩)
     |none=>.fail
   |_,_=>.fail
def code(fn:FuncId)(n:Nat)(rd:Option Nat):Code→St→R (Ex×St)
 |.skip,s|.label _,s=>.one (.normal,s)
 |.region _ ops false,s=>(opsL P inv n ops.toList ops.toList s).bind fun s'=>.one (.normal,s')
 |.region _ ops true,s=>(drawn P inv n ops.toList s).bind fun s'=>.one (.normal,s')
 |.seq a b,s=>(code fn n rd a s).bind fun x=>match x.1 with
  |.normal=>code fn n rd b x.2
  |_=>.one x
 |.cond c a b,s=>match evalO s.t c with
  |some (.bool true)=>code fn n rd a s
  |some (.bool false)=>code fn n rd b s
  |_=>.fail
 |.block id b,s=>(code fn n rd b s).bind fun x=>match x.1 with
  |.exit i=>match Nat.beq i id with
   |true=>.one (.normal,x.2)
   |false=>.one x
  |_=>.one x
 |.loop b,s=>loopN (code fn n rd b) 100000 s
 |.scope b,s=>code fn n rd b s
 |.rangeFunc f ps as b,s=>
  match rd with
  |none=>match s.h.new (.calls true) with
   |some (r,h)=>match h.new (.loop .ready none fn s.t n ps as b r) with
    |some (l,h)=>ranged inv s f l (r::s.marks) h
    |none=>.fail
   |none=>.fail
  |some l=>match s.h.get l with
   |some (.loop _ _ _ _ _ _ _ _ d)=>match s.h.new (.loop .ready none fn s.t n ps as b d) with
    |some (l,h)=>ranged inv s f l s.marks h
    |none=>.fail
   |_=>.fail
 |.exit id,s=>.one (.exit id,s)
 |.ret,s=>.one (.ret,s)
 |_,_=>.fail
def argsT:Nat→List Value→T Value→Option (T Value)
 |_,[],t=>some t
 |i,v::vs,t=>match Nat.blt i top with
  |true=>argsT (i+1) vs (T.put T.deep t i (some v))
  |false=>none
def marksOff:List Nat→H→Option H
 |[],h=>some h
 |r::rs,h=>match h.get r,Nat.blt r top with
  |some (.calls true),true=>marksOff rs (h.put r (.calls false))
  |_,_=>none
def resultsL(t:T Value)(h:H):List ResultVar→Option (List Value)
 |[]=>some []
 |.tmp d::rs=>match t.get d,resultsL t h rs with
  |some v,some vs=>some (v::vs)
  |_,_=>none
 |.cell d ty::rs=>match t.get d with
  |some (.pointer (some a))=>match loadV P h ty a,resultsL t h rs with
   |some v,some vs=>some (v::vs)
   |_,_=>none
  |_=>none
def resultV(t:T Value)(h:H)(rs:List ResultVar):Option Value:=
 match resultsL P t h rs with
 |some [v]=>some v
 |some vs=>some (.tuple ⟨vs⟩)
 |none=>none
def paramsT:List Tmp→List Value→Nat→T Value→Option (T Value)
 |[],[],_,t=>some t
 |d::ds,v::vs,n,t=>match setT t n (some d) v with
  |some t=>paramsT ds vs n t
  |none=>none
 |_,_,_,_=>none
def leave(fn:Func)(x:Ex×St):R (Value×H):=
 match x.1 with
 |.exit _=>.fail
 |_=>match marksOff x.2.marks x.2.h with
  |some h=>match resultV P x.2.t h fn.results.toList with
   |some v=>.one (v,h)
   |none=>.fail
  |none=>.fail
def endR(l:Nat)(x:Ex×St):R (Value×H):=
 match x.2.h.get l,Nat.blt l top,x.2.marks with
 |some (.loop _ _ f2 t2 n2 ps2 as2 b2 d2),true,[]=>match x.1 with
  |.normal=>.one (.bool true,x.2.h.put l (.loop .ready none f2 t2 n2 ps2 as2 b2 d2))
  |.ret=>.one (.bool false,x.2.h.put l (.loop .done (some .ret) f2 t2 n2 ps2 as2 b2 d2))
  |.exit id=>.one (.bool false,x.2.h.put l (.loop .done (some (.exit id)) f2 t2 n2 ps2 as2 b2 d2))
 |_,_,_=>.fail
def bodyR(f:FuncId)(n:Nat)(l:Nat)(b:Code)(x:Ex×St):R (Value×H):=
 match x.1,x.2.h.get l,Nat.blt l top,x.2.marks with
 |.normal,some (.loop .ready j f1 t1 n1 ps1 as1 b1 d1),true,[]=>
  (code P inv f n (some l) b ⟨x.2.t,x.2.h.put l (.loop .busy j f1 t1 n1 ps1 as1 b1 d1),[]⟩).bind (endR l)
 |_,_,_,_=>.fail
end
mutual
def sameV:Value→Value→Bool
 |.bool a,.bool b=>a==b
 |.int j a,.int k b=>match decide (j=k) with|true=>a==b|false=>false
 |.agg ⟨a⟩,.agg ⟨b⟩=>sameVs a b
 |_,_=>false
def sameVs:List Value→List Value→Bool
 |[],[]=>true
 |a::l,b::m=>match sameV a b with
  |true=>sameVs l m
  |false=>false
 |_,_=>false
end
def allFrom(k:Nat):List Nat→Bool
 |[]=>true
 |b::l=>match Nat.ble k b with
  |true=>allFrom k l
  |false=>false
def alike(k r n:Nat)(c:List Value)(e:TypeId)(s:Nat):R (Value×H)→Option Nat
 |.fail=>none
 |.one x=>one x
 |.more x l=>match one x,alike k r n c e s l with
  |some a,some b=>some (match Nat.ble a b with|true=>b|false=>a)
  |_,_=>none
where one (x:Value×H):Option Nat:=
  match x.1 with
  |.slice (some ⟨r',0,none⟩) n' cap=>match Nat.beq r' r,Nat.beq n' n,Nat.beq cap soft,x.2.get r',allFrom k x.2.log with
   |true,true,true,some (.cells c' e' (some s')),true=>match sameVs c' c,Nat.beq e' e,Nat.beq s' s with
    |true,true,true=>some x.2.next
    |_,_,_=>none
   |_,_,_,_,_=>none
  |_=>none
def merged(h:H)(x:R (Value×H)):R (Value×H):=
 match x with
 |.one (v,h')=>.one (v,⟨h'.t,h'.next,h'.log++h.log⟩)
 |.more (.slice (some ⟨r,0,none⟩) n cap,h1) l=>match h1.get r with
  |some (.cells c e (some s))=>match alike h.next r n c e s (.more (.slice (some ⟨r,0,none⟩) n cap,h1) l),Nat.blt r top,Nat.ble h.next r with
   |some nx,true,true=>.one (.slice (some ⟨r,0,none⟩) n cap,⟨T.put T.deep h.t r (some (.cells c e (some s))),nx,r::h.log⟩)
   |_,_,_=>.fail
  |_=>.fail
 |_=>.fail
def inv(P:Program)(mg:FuncId→Bool):Nat→Fn→List Value→H→R (Value×H)
 |0,_,_,_=>.fail
 |d+1,.func f,args,h=>match P.funcs[f]? with
  |some fn=>match fn.body,argsT 0 args .nil,fn.name == "runtime.NumGoroutine" with
   |some c,some t,false=>match mg f with
    |true=>merged h ((code P (inv P mg d) f (args.length+(fn.ntmps-args.length)) none c ⟨t,⟨h.t,h.next,[]⟩,[]⟩).bind (leave P fn))
    |false=>(code P (inv P mg d) f (args.length+(fn.ntmps-args.length)) none c ⟨t,h,[]⟩).bind (leave P fn)
   |_,_,_=>.fail
  |none=>.fail
 |d+1,.yield l,args,h=>match h.get l with
  |some (.loop _ _ f t n ps as b _)=>match paramsT ps.toList args n t with
   |some t'=>(code P (inv P mg d) f n (some l) as ⟨t',h,[]⟩).bind (bodyR P (inv P mg d) f n l b)
   |none=>.fail
  |_=>.fail
 |_+1,_,_,_=>.fail
end Go.Ev
namespace Go.Ren
section
variable[Mps][Fr][Ext]{P:Program}{f:Nat→Nat}{K:Kd}
def Closed(v:Value):Prop:=∀f:Nat→Nat,val f v=v
def flat:Value→Bool
 |.bool _|.int .. | .float .. | .complex .. | .string _|.pointer none|.slice none _ _|.map none|.chan none|.nilFunc|.nilIface=>true
 |_=>false
mutual
def closedB:Value→Bool
 |.agg ⟨cs⟩|.tuple ⟨cs⟩=>closedL cs
 |.func .. | .iface ..=>false
 |.pointer (some _)|.slice (some _) _ _|.map (some _)|.chan (some _)=>false
 |_=>true
def closedL:List Value→Bool
 |[]=>true
 |v::l=>closedB v&&closedL l
end
mutual
theorem closedB_closed:∀{v:Value},closedB v=true→Closed v
 |.agg ⟨cs⟩,h=>fun f=>by
  rw[val_agg]
  have:=closedL_closed (l:=cs) (by simpa only[closedB] using h) f
  unfold vals
  rw[List.map_toArray,this]
 |.tuple ⟨cs⟩,h=>fun f=>by
  rw[val_tuple]
  have:=closedL_closed (l:=cs) (by simpa only[closedB] using h) f
  unfold vals
  rw[List.map_toArray,this]
 |.bool _,_|.int _ _,_|.float _ _,_|.complex _ _ _,_|.string _,_|.nilFunc,_|.nilIface,_|.pointer none,_|.slice none _ _,_|.map none,_|.chan none,_=>fun f=>by simp
 |.func _ _ _,h|.iface _ _,h=>by simp[closedB] at h
 |.pointer (some _),h|.slice (some _) _ _,h|.map (some _),h|.chan (some _),h=>by simp[closedB] at h
theorem closedL_closed:∀{l:List Value},closedL l=true→∀f:Nat→Nat,l.map (val f)=l
 |[],_,_=>rfl
 |v::l,h,f=>by
  simp only[closedL,Bool.and_eq_true] at h
  rw[List.map_cons,closedB_closed h.1 f,closedL_closed h.2 f]
end
theorem flat_closedB{v:Value}(h:flat v=true):closedB v=true:=by
 unfold flat at h
 split at h<;>first|(simp[closedB];done)|cases h
theorem closedL_all{l:List Value}(h:∀c∈l,closedB c=true):closedL l=true:=by
 induction l with
 |nil=>rfl
 |cons v l ih=>simp only[closedL,Bool.and_eq_true];exact⟨h v (by simp),ih fun c hc=>h c (by simp[hc])⟩
theorem closedL_mem:∀{l:List Value},closedL l=true→∀c∈l,closedB c=true
 |v::l,h,c,hc=>by
  simp only[closedL,Bool.and_eq_true] at h
  rcases List.mem_cons.1 hc with rfl|hc
  .exact h.1
  .exact closedL_mem h.2 c hc
theorem closedB_agg{cs:Array Value}(h:∀c∈cs,closedB c=true):closedB (.agg cs)=true:=by
 obtain⟨cs⟩:=cs
 simp only[closedB]
 exact closedL_all fun c hc=>h c (by simpa using hc)
theorem closedB_cells{z:Value}(h:closedB z=true):∀c∈z.cells,closedB c=true:=by
 cases z<;>first|(intro c hc;simp only[Value.cells,Array.mem_singleton] at hc;subst hc;exact h)|skip
 case agg cs=>
  obtain⟨cs⟩:=cs
  exact fun c hc=>closedL_mem (by simpa only[closedB] using h) c (by simpa[Value.cells] using hc)
structure ZeroOK(P:Program):Prop where
 zero:∀t i z,P.info? t=some i→i.zero=some z→closedB z=true
 types:P.types.size≤tyTop
theorem r_pure{α β:Type}{Q:α→β→Prop}{a:α}{b:β}(h:Q a b):SRel P f K Q (pure a) (pure b):=.pure h
theorem r_bind{α β γ δ:Type}{Q:α→β→Prop}{Q':γ→δ→Prop}{s:Sem α}{s':Sem β}{g:α→Sem γ}{g':β→Sem δ}(h:SRel P f K Q s s')(hg:∀a b,Q a b→SRel P f K Q' (g a) (g' b)):SRel P f K Q' (s >>= g) (s' >>= g'):=SRel.bind h hg
theorem noInit_stuck(m:String):NoInit (.stuck m):=⟨fun _ h=>(by cases h),rfl⟩
theorem noInit_panic(v:Value):NoInit (.panic v):=⟨fun _ h=>(by cases h),rfl⟩
theorem r_stuck{α β:Type}{Q:α→β→Prop}{m:String}{s':Sem β}:SRel P f K Q (stuck m) s':=.halt (noInit_stuck m)
theorem r_unsupported{α β:Type}{Q:α→β→Prop}{u:Unsupported}{s':Sem β}(hn:NoInit (.unsupported u):=by exact⟨(by intro _ h;cases h),rfl⟩):SRel P f K Q (unsupported u) s':=.halt hn
theorem Dies.rel{α β:Type}{Q:α→β→Prop}{s:Sem α}{s':Sem β}(h:Dies P K s):SRel P f K Q s s':=.dies h
theorem Dies.halt{α:Type}(h:Halt)(hn:NoInit h):Dies P K (.halt h:Sem α):=fun v es hv=>⟨h,v,es,rfl,hn,hv⟩
theorem Dies.bind{α β:Type}{s:Sem α}(h:Dies P K s)(g:α→Sem β):Dies P K (s >>= g):=fun v es hv=>by
 obtain⟨x,v1,es1,h1,h2⟩:=h v es hv
 exact⟨x,v1,es1,by rw[show(s >>= g)=s.bind g from rfl,runT_bind,h1],h2⟩
theorem Dies.after{α β:Type}{s:Sem α}{g:α→Sem β}(hs:Calm P K s)(h:∀a,Dies P K (g a)):Dies P K (s >>= g):=fun v es hv=>by
 have hc:=hs v es hv
 rw[show(s >>= g)=s.bind g from rfl,runT_bind]
 generalize hr:Sem.runT P s v es=r at hc
 obtain⟨r,es2⟩:=r
 cases r with
 |ok a w=>exact h a w es2 hc
 |halt x w=>exact⟨x,w,es2,rfl,hc⟩
theorem Calm.bind{α β:Type}{s:Sem α}{g:α→Sem β}(hs:Calm P K s)(h:∀a,Calm P K (g a)):Calm P K (s >>= g):=fun v es hv=>by
 have hc:=hs v es hv
 rw[show(s >>= g)=s.bind g from rfl,runT_bind]
 generalize hr:Sem.runT P s v es=r at hc
 obtain⟨r,es2⟩:=r
 cases r with
 |ok a w=>exact h a w es2 hc
 |halt x w=>exact hc
theorem calm_pure{α:Type}(a:α):Calm P K (pure a):=fun _ _ hv=>hv
theorem calm_halt{α:Type}{h:Halt}(hn:NoInit h):Calm P K (.halt h:Sem α):=fun _ _ hv=>⟨hn,hv⟩
theorem calm_stuck{α:Type}(m:String):Calm P K (stuck m:Sem α):=calm_halt (noInit_stuck m)
theorem calm_program:Calm P K program:=fun _ _ hv=>hv
theorem calm_choose(q:Question):Calm P K (choose q):=fun v es hv=>by
 rw[show Sem.runT P (choose q) v es=if q.forced then(.ok 0 v,es) else(.ok (q.cut (v.tape v.drawn q)) {v with drawn:=v.drawn+1},es) from rfl]
 cases q.forced<;>exact hv
theorem calm_newObj{o:Obj}(hp:plain o=true)(hk:GoodObj K o):Calm P K (newObj o):=fun v es hv=>by
 show NV K {v with heap:=v.heap.push o}
 intro b o2 hb
 simp only[Array.getElem?_push] at hb
 split at hb
 .obtain rfl:=Option.some.inj hb;exact⟨.inr hp,hk⟩
 .exact hv b o2 hb
theorem calm_newVar(t:TypeId)(x:Value):Calm P K (newVar t x):=Calm.bind (calm_newObj rfl trivial) fun _=>calm_pure _
theorem calm_underlying(t:TypeId):Calm P K (underlying t):=Calm.bind calm_program fun p=>by split<;>first|exact calm_pure _|exact calm_stuck _
theorem calm_typeInfo(t:TypeId):Calm P K (typeInfo t):=Calm.bind calm_program fun p=>by split<;>first|exact calm_pure _|exact calm_stuck _
theorem calm_elemOf(t:TypeId):Calm P K (elemOf t):=Calm.bind (calm_underlying t) fun p=>by split<;>first|exact calm_pure _|exact calm_stuck _
theorem dies_goPanic{α:Type}(v:Value):Dies P K (goPanic v:Sem α):=.halt _ (noInit_panic v)
theorem dies_stuck{α:Type}(m:String):Dies P K (stuck m:Sem α):=.halt _ (noInit_stuck m)
theorem dies_unsupported{α:Type}(u:Unsupported)(hn:NoInit (.unsupported u):=by exact⟨(by intro _ h;cases h),rfl⟩):Dies P K (unsupported u:Sem α):=.halt _ hn
theorem dies_runtimePanic{α:Type}(e:RuntimeError):Dies P K (runtimePanic e:Sem α):=by
 unfold runtimePanic
 refine .after calm_program fun p=>?_
 cases e with
 |typeAssertion i c a m=>exact .after (calm_elemOf _) fun _=>.after (calm_newVar _ _) fun _=>.halt _ (noInit_panic _)
 |panicNil=>exact .after (calm_elemOf _) fun _=>.after (calm_newVar _ _) fun _=>.halt _ (noInit_panic _)
 |_=>exact .halt _ (noInit_panic _)
theorem calm_dies{α:Type}{s:Sem α}(h:Dies P K s):Calm P K s:=fun v es hv=>by
 obtain⟨x,v1,es1,h1,h2⟩:=h v es hv
 rw[h1];exact h2
theorem dies_boundsPanic{α:Type}(k:IntKind)(x y:Int)(c:BoundsCode):Dies P K (boundsPanic k x y c:Sem α):=by
 unfold boundsPanic
 dsimp only
 split
 .exact .after (Calm.bind (calm_choose _) fun _=>calm_pure _) fun _=>dies_runtimePanic _
 .exact .after (calm_pure _) fun _=>dies_runtimePanic _
theorem calm_asIntOf(v:Value):Calm P K (asIntOf v):=by
 cases v with
 |int k n=>exact calm_pure _
 |pointer a=>cases a<;>first|exact calm_stuck _|exact calm_halt ⟨(by intro _ h;cases h),rfl⟩
 |_=>exact calm_stuck _
theorem r_program{α β:Type}{Q:α→β→Prop}{g:Program→Sem α}{g':Program→Sem β}(h:SRel P f K Q (g P) (g' P)):SRel P f K Q (program >>= g) (program >>= g'):=.program h
theorem r_choose(q:Question):SRel P f K (fun a b:Nat=>a=b) (choose q) (choose q):=.choose fun _=>.pure rfl
theorem r_mark:SRel P f K (fun _ _:Unit=>True) (Go.mark .noRoom) (Go.mark .noRoom):=.mark (.pure trivial)
theorem r_load(a:Addr)(m:Mode):SRel P f K (fun x y=>y=val f x) (load a m) (load (addr f a) m):=.load fun _=>.pure rfl
theorem r_store(a:Addr)(x:Value)(m:Mode):SRel P f K (fun _ _:Unit=>True) (store a x m) (store (addr f a) (val f x) m):=.store (.pure trivial)
theorem r_newObj{o o':Obj}(hp:plain o=true)(hk:GoodObj K o)(ho:o'=obj f o):SRel P f K (fun a b=>b=f a) (newObj o) (newObj o'):=.new hp hk ho fun _=>.pure rfl
def Seen(f:Nat→Nat)(K:Kd)(a b:Obj):Prop:=(plain a=true∧GoodObj K a∧b=obj f a)∨HidSt a b
theorem r_getObj(r:Nat):SRel P f K (Seen f K) (getObj r) (getObj (f r)):=.getObj (fun _ h hg=>.pure (.inl ⟨h,hg,rfl⟩)) (fun _ _ h=>.pure (.inr h))
theorem r_shape(r:Nat):SRel P f K SR (shape r) (shape (f r)):=.shape fun _ _ h=>.pure h
theorem r_setObj{r:Nat}{o o':Obj}(hp:plain o=true)(hk:GoodObj K o)(hc:∀c e fr,o≠.cells c e fr)(ho:o'=obj f o):SRel P f K (fun _ _:Unit=>True) (setObj r o) (setObj (f r) o'):=.setObj hp hk hc ho (.pure trivial)
theorem r_typeInfo(t:TypeId):SRel P f K (fun a b=>b=a∧P.info? t=some a) (typeInfo t) (typeInfo t):=by
 unfold typeInfo
 refine r_program ?_
 cases h:P.info? t with
 |none=>exact r_stuck
 |some i=>exact r_pure ⟨rfl,rfl⟩
theorem r_underlying(t:TypeId):SRel P f K (fun a b=>b=a∧P.underlying t=some a) (underlying t) (underlying t):=by
 unfold underlying
 refine r_program ?_
 cases h:P.underlying t with
 |none=>exact r_stuck
 |some i=>exact r_pure ⟨rfl,rfl⟩
theorem r_zeroValue(hz:ZeroOK P)(t:TypeId):SRel P f K (fun a b=>b=a∧closedB a=true) (zeroValue t) (zeroValue t):=by
 unfold zeroValue
 refine r_bind (r_typeInfo t) ?_
 rintro _ i ⟨rfl,hi⟩
 cases h:i.zero with
 |none=>exact r_unsupported
 |some z=>exact r_pure ⟨rfl,hz.zero t i z hi h⟩
theorem r_sizeOf(t:TypeId):SRel P f K (fun a b=>b=a∧∃i,P.info? t=some i∧i.size=a) (Go.sizeOf t) (Go.sizeOf t):=by
 unfold Go.sizeOf
 refine r_bind (r_typeInfo t) ?_
 rintro _ i ⟨rfl,hi⟩
 exact r_pure ⟨rfl,_,hi,rfl⟩
theorem r_isAgg(t:TypeId):SRel P f K (fun a b=>b=a) (isAgg t) (isAgg t):=by
 unfold isAgg
 refine r_bind (r_underlying t) ?_
 rintro _ d ⟨rfl,_⟩
 cases d<;>exact r_pure rfl
theorem r_asIntOf(v:Value):SRel P f K (fun a b=>b=a∧v=.int a.1 a.2) (asIntOf v) (asIntOf (val f v)):=by
 cases v with
 |int k n=>simp only[val_int];exact r_pure ⟨rfl,rfl⟩
 |pointer a=>cases a<;>first|exact r_stuck|exact r_unsupported
 |_=>exact r_stuck
theorem r_asInt(v:Value):SRel P f K (fun a b=>b=a) (asInt v) (asInt (val f v)):=by
 unfold asInt
 refine r_bind (r_asIntOf v) ?_
 rintro _ a ⟨rfl,_⟩
 exact r_pure rfl
theorem r_asBool(v:Value):SRel P f K (fun a b=>b=a) (asBool v) (asBool (val f v)):=by
 cases v with
 |bool b=>simp only[val_bool];exact r_pure rfl
 |_=>exact r_stuck
theorem r_asAgg(v:Value):SRel P f K (fun a b=>b=vals f a) (asAgg v) (asAgg (val f v)):=by
 cases v with
 |agg cs=>simp only[val_agg];exact r_pure rfl
 |_=>exact r_stuck
theorem r_asAddr(v:Value):SRel P f K (fun a b=>b=addr f a) (asAddr v) (asAddr (val f v)):=by
 cases v with
 |pointer a=>
  cases a with
  |none=>exact Dies.rel (s:=asAddr (.pointer none)) (dies_runtimePanic .nilDeref)
  |some a=>simp only[val_pointer,Option.map_some];exact r_pure rfl
 |_=>exact r_stuck
theorem r_sureAddr(v:Value):SRel P f K (fun a b=>b=addr f a) (Instr.sureAddr v) (Instr.sureAddr (val f v)):=by
 cases v with
 |pointer a=>
  cases a with
  |none=>exact r_stuck
  |some a=>simp only[val_pointer,Option.map_some];exact r_pure rfl
 |_=>exact r_stuck
theorem addr_add(f:Nat→Nat)(a:Addr)(n:Nat):addr f (a.add n)=(addr f a).add n:=by
 unfold Addr.add addr
 split<;>rfl
theorem r_loadCellsFrom(a:Addr):∀(n i:Nat) (acc:Array Value),SRel P f K (fun x y=>y=vals f x) (loadCellsFrom a i n acc) (loadCellsFrom (addr f a) i n (vals f acc))
 |0,i,acc=>r_pure rfl
 |n+1,i,acc=>by
  unfold loadCellsFrom
  refine r_bind (by rw[←addr_add];exact r_load _ _) ?_
  rintro x _ rfl
  rw[show(vals f acc).push (val f x)=vals f (acc.push x) by simp[vals]]
  exact r_loadCellsFrom a n (i+1) _
theorem r_loadCells(a:Addr)(n:Nat):SRel P f K (fun x y=>y=vals f x) (loadCells a n) (loadCells (addr f a) n):=by
 have:=r_loadCellsFrom (P:=P) (f:=f) (K:=K) a n 0 #[]
 simpa[loadCells,vals] using this
theorem r_storeCells(a:Addr):∀(vs:List Value) (i:Nat),SRel P f K (fun _ _:Unit=>True) (storeCells a vs i) (storeCells (addr f a) (vs.map (val f)) i)
 |[],i=>r_pure trivial
 |x::rest,i=>by
  unfold storeCells
  refine r_bind (by rw[←addr_add];exact r_store _ _ _) ?_
  rintro _ _ _
  exact r_storeCells a rest (i+1)
theorem r_loadVar(t:TypeId)(a:Addr):SRel P f K (fun x y=>y=val f x) (loadVar t a) (loadVar t (addr f a)):=by
 unfold loadVar
 refine r_bind (r_isAgg t) ?_
 rintro _ b rfl
 cases b with
 |true=>
  refine r_bind (r_sizeOf t) ?_
  rintro _ n ⟨rfl,_⟩
  refine r_bind (r_loadCells a _) ?_
  rintro cs _ rfl
  exact r_pure (by simp)
 |false=>exact r_load _ _
theorem cells_size(f:Nat→Nat)(v:Value):(val f v).cells.size=v.cells.size:=by rw[cells_val];simp
theorem r_storeVar(t:TypeId)(a:Addr)(x:Value):SRel P f K (fun _ _:Unit=>True) (storeVar t a x) (storeVar t (addr f a) (val f x)):=by
 unfold storeVar
 refine r_bind (r_sizeOf t) ?_
 rintro _ n ⟨rfl,_⟩
 rw[cells_size,cells_val]
 by_cases h:x.cells.size=n
 .have:=r_storeCells (P:=P) (f:=f) (K:=K) a x.cells.toList 0
  simpa[vals,h] using this
 .simp only[ne_eq,h,not_false_eq_true,if_true]
  exact Dies.rel ((dies_stuck _).bind _)
theorem r_newRow(t:TypeId)(cs:Array Value):SRel P f K (fun a b=>b=addr f a) (newRow t cs) (newRow t (vals f cs)):=by
 unfold newRow
 refine r_bind (r_newObj rfl trivial rfl) ?_
 rintro r _ rfl
 exact r_pure rfl
theorem r_newVar(t:TypeId)(x:Value):SRel P f K (fun a b=>b=addr f a) (newVar t x) (newVar t (val f x)):=by
 unfold newVar
 rw[cells_val]
 exact r_newRow t _
theorem r_part(t:TypeId)(cs:Array Value)(off:Nat):SRel P f K (fun x y=>y=val f x) (part t cs off) (part t (vals f cs) off):=by
 unfold part
 refine r_bind (r_isAgg t) ?_
 rintro _ b rfl
 cases b with
 |true=>
  refine r_bind (r_sizeOf t) ?_
  rintro _ n ⟨rfl,_⟩
  exact r_pure (by simp[vals,Array.map_extract])
 |false=>
  simp only[vals_get?]
  cases cs[off]? with
  |none=>exact r_stuck
  |some x=>exact r_pure rfl
theorem r_viewAt(r:Nat):SRel P f K (fun a b=>a=none∧b=none) (viewAt r) (viewAt (f r)):=by
 unfold viewAt
 refine r_bind (r_shape r) ?_
 intro a b h
 rw[←h.isSome]
 cases a with
 |some x=>exact r_pure ⟨rfl,rfl⟩
 |none=>
  refine r_bind (r_getObj r) ?_
  rintro o o' (⟨h1,_,rfl⟩|h)
  .cases o<;>first|exact r_pure ⟨rfl,rfl⟩|exact absurd h1 (by simp[plain])
  .rcases h with⟨h1,h2⟩|⟨⟨x,rfl⟩,h2⟩
   .cases o<;>first|(cases h1;done)|skip
    cases o'<;>first|(cases h2;done)|exact r_pure ⟨rfl,rfl⟩
   .cases o'<;>first|(cases h2;done)|exact r_pure ⟨rfl,rfl⟩
theorem r_numberAt(r:Nat):SRel P f K (fun a b=>b=a.map fun x=>(addr f x.1,x.2)) (numberAt r) (numberAt (f r)):=by
 unfold numberAt
 refine r_bind (r_shape r) ?_
 intro a b h
 rw[←h.isSome]
 cases a with
 |some x=>exact r_pure rfl
 |none=>
  refine r_bind (r_getObj r) ?_
  rintro o o' (⟨h1,_,rfl⟩|h)
  .cases o<;>first|exact r_pure rfl|exact absurd h1 (by simp[plain])
  .rcases h with⟨h1,h2⟩|⟨⟨x,rfl⟩,h2⟩
   .cases o<;>first|(cases h1;done)|skip
    cases o'<;>first|(cases h2;done)|exact r_pure rfl
   .cases o'<;>first|(cases h2;done)|exact r_pure rfl
theorem r_behindNumber(a:Addr):SRel P f K (fun x y=>y=(addr f x.1,x.2)) (behindNumber a) (behindNumber (addr f a)):=by
 unfold behindNumber
 refine r_bind (r_numberAt a.block) ?_
 rintro x _ rfl
 cases x<;>exact r_pure rfl
theorem r_asNumber(a:Addr)(l:Bool):SRel P f K (fun x y=>y=val f x) (asNumber a l) (asNumber (addr f a) l):=by
 unfold asNumber
 refine r_bind (r_newObj rfl trivial rfl) ?_
 rintro r _ rfl
 exact r_pure (by simp[addr])
theorem r_noView(a:Addr):SRel P f K (fun _ _:Unit=>True) (noView a) (noView (addr f a)):=by
 unfold noView
 refine r_bind (r_viewAt a.block) ?_
 rintro _ _ ⟨rfl,rfl⟩
 exact r_pure trivial
theorem r_byteOf(a:Addr):SRel P f K (fun x y=>y=x) (byteOf a) (byteOf (addr f a)):=by
 unfold byteOf
 show SRel P f K _ _ (match a.spot with|_=>_)
 cases hs:a.spot with
 |some s=>simp only[addr,hs];exact r_pure rfl
 |none=>
  simp only[addr,hs]
  refine r_program ?_
  refine r_bind (r_noView a) ?_
  rintro _ _ _
  refine r_bind (r_shape a.block) ?_
  intro x y h
  cases x with
  |none=>exact r_stuck
  |some x=>
   cases y with
   |none=>cases h.isSome
   |some y=>
    obtain⟨e,n⟩:=x
    obtain⟨e',n'⟩:=y
    obtain rfl:e=e':=by
     rcases h with h|⟨_,_,h1,h2⟩
     .cases h;rfl
     .cases h1;cases h2;rfl
    dsimp only
    split
    .exact r_pure rfl
    .cases byteOfCell P P.depth e (a.off % P.cellsOf e) with
     |none=>exact r_stuck
     |some b=>exact r_pure rfl
end
section
variable[Mps][Fr][Ext]{P:Program}{f:Nat→Nat}{K:Kd}
def Fix(P:Program)(f:Nat→Nat):Prop:=∀g,g<P.globals.size→f g=g
theorem Fix.lt{G:Nat}(hf:Inj f)(h:∀g,g<G→f g=g)(b:Nat):(f b<G)↔b<G:=by
 constructor
 .intro h1
  have h2:=h (f b) h1
  have h3:=hf _ _ h2
  omega
 .intro h1;rw[h b h1];exact h1
abbrev ToVal(f:Nat→Nat):Value→Value→Prop:=fun x y=>y=val f x
theorem r_ite{α β:Type}{Q:α→β→Prop}{c:Prop}[Decidable c]{a b:Sem α}{a' b':Sem β}(h:c→SRel P f K Q a a')(h':¬c→SRel P f K Q b b'):SRel P f K Q (if c then a else b) (if c then a' else b'):=by
 by_cases hc:c
 .rw[if_pos hc,if_pos hc];exact h hc
 .rw[if_neg hc,if_neg hc];exact h' hc
theorem r_partAt(a:Addr)(c b:Nat):SRel P f K (fun x y=>y=addr f x) (partAt a c b) (partAt (addr f a) c b):=by
 unfold partAt
 refine r_bind (r_byteOf a) ?_
 rintro n _ rfl
 refine r_bind (r_byteOf (P:=P) (f:=f) (K:=K) {block:=a.block,off:=a.off+c}) ?_
 rintro m _ rfl
 refine r_pure ?_
 dsimp only
 split<;>rfl
theorem r_fieldPlace(a:Addr)(g:Field):SRel P f K (fun x y=>y=addr f x) (fieldPlace a g) (fieldPlace (addr f a) g):=by
 unfold fieldPlace
 refine r_bind (r_sizeOf _) ?_
 rintro _ n ⟨rfl,_⟩
 split
 .exact r_partAt a _ _
 .exact r_pure (addr_add f a _).symm
theorem r_boundsPanic{α β:Type}{Q:α→β→Prop}(k:IntKind)(x y:Int)(c:BoundsCode){s:Sem β}:SRel P f K Q (boundsPanic k x y c) s:=(dies_boundsPanic k x y c).rel
theorem r_runtimePanic{α β:Type}{Q:α→β→Prop}(e:RuntimeError){s:Sem β}:SRel P f K Q (runtimePanic e) s:=(dies_runtimePanic e).rel
theorem r_alloc(hz:ZeroOK P)(t:TypeId)(o:Value):SRel P f K (ToVal f) (Instr.alloc t true o) (Instr.alloc t true o):=by
 unfold Instr.alloc
 refine r_bind (r_zeroValue hz t) ?_
 rintro _ z ⟨rfl,hc⟩
 refine r_bind (by have:=r_newVar (P:=P) (f:=f) (K:=K) t z;rwa[closedB_closed hc f] at this) ?_
 rintro a _ rfl
 exact r_pure (by simp[ToVal])
theorem r_box(t:TypeId)(x:Value):SRel P f K (ToVal f) (Instr.box t x) (Instr.box t (val f x)):=by
 unfold Instr.box
 refine r_bind (r_newVar t x) ?_
 rintro a _ rfl
 exact r_pure (by simp[ToVal])
theorem r_loadAt(t:TypeId)(x:Value):SRel P f K (ToVal f) (Instr.loadAt t x) (Instr.loadAt t (val f x)):=by
 unfold Instr.loadAt
 refine r_bind (r_sureAddr x) ?_
 rintro a _ rfl
 exact r_loadVar t a
theorem r_storeAt(t:TypeId)(x y:Value):SRel P f K (fun _ _:Unit=>True) (Instr.storeAt t x y) (Instr.storeAt t (val f x) (val f y)):=by
 unfold Instr.storeAt
 refine r_bind (r_sureAddr x) ?_
 rintro a _ rfl
 exact r_storeVar t a y
theorem r_fieldAt(t:TypeId)(x:Value)(n:Nat):SRel P f K (ToVal f) (Instr.fieldAt t x n) (Instr.fieldAt t (val f x) n):=by
 unfold Instr.fieldAt
 refine r_bind (r_underlying t) ?_
 rintro _ d ⟨rfl,_⟩
 cases d with
 |struct fields=>
  dsimp only
  cases fields[n]? with
  |none=>exact r_stuck
  |some g=>
   refine r_bind (r_sureAddr x) ?_
   rintro a _ rfl
   refine r_bind (r_fieldPlace a g) ?_
   rintro b _ rfl
   exact r_pure (by simp[ToVal])
 |_=>exact r_stuck
theorem r_field(t:TypeId)(x:Value)(n:Nat):SRel P f K (ToVal f) (Instr.field t x n) (Instr.field t (val f x) n):=by
 unfold Instr.field
 refine r_bind (r_underlying t) ?_
 rintro _ d ⟨rfl,_⟩
 cases d with
 |struct fields=>
  dsimp only
  cases fields[n]? with
  |none=>exact r_stuck
  |some g=>
   refine r_bind (r_asAgg x) ?_
   rintro cs _ rfl
   exact r_part _ _ _
 |_=>exact r_stuck
theorem r_extract(x:Value)(n:Nat):SRel P f K (ToVal f) (Instr.extract x n) (Instr.extract (val f x) n):=by
 unfold Instr.extract
 cases x with
 |tuple vs=>
  simp only[val_tuple,vals_get?]
  cases vs[n]? with
  |none=>exact r_stuck
  |some v=>exact r_pure rfl
 |_=>exact r_stuck
theorem r_index(t:TypeId)(x i:Value):SRel P f K (ToVal f) (Instr.index t x i) (Instr.index t (val f x) (val f i)):=by
 unfold Instr.index
 refine r_bind (r_asIntOf i) ?_
 rintro _ ⟨k,n⟩ ⟨rfl,_⟩
 refine r_bind (r_underlying t) ?_
 rintro _ d ⟨rfl,_⟩
 split
 .rename_i elem cs _
  simp only[val_agg]
  refine r_ite (fun _=>?_) (fun _=>r_boundsPanic _ _ _ _)
  refine r_bind (r_sizeOf _) ?_
  rintro _ m ⟨rfl,_⟩
  exact r_part _ _ _
 .rename_i s
  simp only[val_string]
  split
  .exact r_pure (by simp[ToVal])
  .exact r_boundsPanic _ _ _ _
 .exact r_stuck
theorem r_indexAt(t:TypeId)(x i:Value):SRel P f K (ToVal f) (Instr.indexAt t x i) (Instr.indexAt t (val f x) (val f i)):=by
 unfold Instr.indexAt
 refine r_bind (r_asIntOf i) ?_
 rintro _ ⟨k,n⟩ ⟨rfl,_⟩
 refine r_bind (r_underlying t) ?_
 rintro _ d ⟨rfl,_⟩
 have tail:∀(base:Option Addr) (len:Nat) (elem:TypeId),SRel P f K (ToVal f)
   (underlying t >>= fun d=>match base with
    |some a=>if 0≤n∧n<(len:Int) then Go.sizeOf elem >>= fun s=>pure (Value.pointer (some (a.add (n.toNat*s)))) else
      if (decide (len≤1)&&match d with|.array ..=>true|_=>false)=true then unsupported (.noEntry "op/indexAddr.an index out of range at an array of length 0 or 1 (ledger 616)") else boundsPanic k n (len:Int) .index
    |none=>boundsPanic k n 0 .index)
   (underlying t >>= fun d=>match base.map (addr f) with
    |some a=>if 0≤n∧n<(len:Int) then Go.sizeOf elem >>= fun s=>pure (Value.pointer (some (a.add (n.toNat*s)))) else
      if (decide (len≤1)&&match d with|.array ..=>true|_=>false)=true then unsupported (.noEntry "op/indexAddr.an index out of range at an array of length 0 or 1 (ledger 616)") else boundsPanic k n (len:Int) .index
    |none=>boundsPanic k n 0 .index):=fun base len elem=>by
  refine r_bind (r_underlying t) ?_
  rintro _ d' ⟨rfl,_⟩
  cases base with
  |none=>exact r_boundsPanic _ _ _ _
  |some a=>
   simp only[Option.map_some]
   refine r_ite (fun _=>?_) (fun _=>r_ite (fun _=>r_unsupported) (fun _=>r_boundsPanic _ _ _ _))
   refine r_bind (r_sizeOf _) ?_
   rintro _ m ⟨rfl,_⟩
   exact r_pure (by simp[ToVal,addr_add])
 split
 .refine r_bind (r_sureAddr x) ?_
  rintro a _ rfl
  exact tail (some a) _ _
 .simp only[val_slice]
  exact tail _ _ _
 .exact Dies.rel ((dies_stuck _).bind _)
theorem r_makeInterface{t:TypeId}(ht:t<tyTop)(x:Value):SRel P f K (ToVal f) (Instr.makeInterface t x) (Instr.makeInterface t (val f x)):=by
 unfold Instr.makeInterface
 refine r_bind (r_underlying t) ?_
 rintro _ d ⟨rfl,_⟩
 cases d<;>first|exact r_stuck|exact r_pure (by simp[ToVal,ifv_lt ht])
theorem r_makeFunc(g:Fn)(a b:Array Value):SRel P f K (ToVal f) (Instr.makeFunc g a b) (Instr.makeFunc (fn f g) (vals f a) (vals f b)):=r_pure (by simp[ToVal])
theorem calm_sliceBound(x:Value)(y:Nat)(c:BoundsCode):Calm P K (Instr.sliceBound x y c):=by
 unfold Instr.sliceBound
 refine Calm.bind (calm_asIntOf x) fun a=>?_
 obtain⟨k,n⟩:=a
 dsimp only
 split
 .exact calm_pure _
 .exact calm_dies (dies_boundsPanic _ _ _ _)
theorem r_sliceBound(x:Value)(y:Nat)(c:BoundsCode):SRel P f K (fun a b=>b=a) (Instr.sliceBound x y c) (Instr.sliceBound (val f x) y c):=by
 unfold Instr.sliceBound
 refine r_bind (r_asIntOf x) ?_
 rintro _ ⟨k,n⟩ ⟨rfl,_⟩
 dsimp only
 split
 .exact r_pure rfl
 .exact r_boundsPanic _ _ _ _
theorem r_sliceBounds(b:Bool)(len cap:Nat)(lo hi mx:Option Value):SRel P f K (fun a b=>b=a) (Instr.sliceBounds b len cap lo hi mx) (Instr.sliceBounds b len cap (lo.map (val f)) (hi.map (val f)) (mx.map (val f))):=by
 unfold Instr.sliceBounds
 cases lo<;>cases hi<;>cases mx<;>dsimp only[Option.map]<;>
  first
   |exact Dies.rel (.after (calm_sliceBound _ _ _) fun _=>.bind (dies_stuck _) _)
   |exact Dies.rel (.after (calm_pure _) fun _=>.bind (dies_stuck _) _)
   |(refine r_bind (Q:=fun a b=>b=a) (by first|exact r_pure rfl|exact r_sliceBound _ _ _) ?_
     rintro m _ rfl
     refine r_bind (Q:=fun a b=>b=a) (by first|exact r_pure rfl|exact r_sliceBound _ _ _) ?_
     rintro h _ rfl
     refine r_bind (Q:=fun a b=>b=a) (by first|exact r_pure rfl|exact r_sliceBound _ _ _) ?_
     rintro l _ rfl
     exact r_pure rfl)
theorem r_slice(t:TypeId)(x:Value)(lo hi mx:Option Value):SRel P f K (ToVal f) (Instr.slice t x lo hi mx) (Instr.slice t (val f x) (lo.map (val f)) (hi.map (val f)) (mx.map (val f))):=by
 unfold Instr.slice
 refine r_bind (r_underlying t) ?_
 rintro _ d ⟨rfl,_⟩
 split
 .simp only[val_string,Option.isSome_map]
  refine r_ite (fun _=>Dies.rel ((dies_stuck _).bind _)) (fun _=>?_)
  refine r_bind (by simpa using r_sliceBounds _ _ _ lo hi none) ?_
  rintro⟨l,h,m⟩ _ rfl
  exact r_pure (by simp[ToVal])
 .simp only[val_slice]
  refine r_bind (r_sliceBounds _ _ _ lo hi mx) ?_
  rintro⟨l,h,m⟩ _ rfl
  refine r_bind (r_sizeOf _) ?_
  rintro _ s ⟨rfl,_⟩
  refine r_pure ?_
  dsimp only[ToVal]
  rw[val_slice]
  split
  .rfl
  .simp[Function.comp_def,addr_add]
 .refine r_bind (r_asAddr x) ?_
  rintro a _ rfl
  refine r_bind (r_underlying _) ?_
  rintro _ d' ⟨rfl,_⟩
  cases d' with
  |array n elem=>
   refine r_bind (r_sliceBounds _ _ _ lo hi mx) ?_
   rintro⟨l,h,m⟩ _ rfl
   refine r_bind (r_sizeOf _) ?_
   rintro _ s ⟨rfl,_⟩
   refine r_pure ?_
   dsimp only[ToVal]
   rw[val_slice]
   split<;>simp[addr_add]
  |_=>exact r_stuck
 .exact r_stuck
theorem r_sliceAt(t:TypeId)(x:Value)(lo hi mx:Option Value):SRel P f K (ToVal f) (Instr.sliceAt t x lo hi mx) (Instr.sliceAt t (val f x) (lo.map (val f)) (hi.map (val f)) (mx.map (val f))):=by
 unfold Instr.sliceAt
 refine r_bind (r_underlying t) ?_
 rintro _ d ⟨rfl,_⟩
 cases d with
 |array n elem=>
  refine r_bind (r_sureAddr x) ?_
  rintro a _ rfl
  refine r_bind (r_sliceBounds _ _ _ lo hi mx) ?_
  rintro⟨l,h,m⟩ _ rfl
  refine r_bind (r_sizeOf _) ?_
  rintro _ s ⟨rfl,_⟩
  refine r_pure ?_
  dsimp only[ToVal]
  rw[val_slice]
  split<;>simp[addr_add]
 |_=>exact r_slice _ _ _ _ _
theorem zero_cells{z:Value}(hc:closedB z=true)(f:Nat→Nat):vals f z.cells=z.cells:=by
 rw[←cells_val,closedB_closed hc f]
theorem vals_repeat(f:Nat→Nat){z:Value}(hc:closedB z=true)(n:Nat):vals f ((Array.range n).map (z.cells[· % z.cells.size]!))=(Array.range n).map (z.cells[· % z.cells.size]!):=by
 have h:=zero_cells hc f
 unfold vals
 rw[Array.map_map]
 refine Array.map_congr_left fun i _=>?_
 have h2:∀j:Nat,(z.cells[j]?).map (val f)=z.cells[j]?:=fun j=>by rw[←vals_get?,h]
 simp only[Function.comp]
 have:=h2 (i % z.cells.size)
 rw[getElem!_def]
 cases hx:z.cells[i % z.cells.size]? with
 |none=>exact val_bool f _
 |some x=>rw[hx] at this;simpa using this
theorem r_makeSlice(hz:ZeroOK P)(t:TypeId)(l c:Value):SRel P f K (ToVal f) (Instr.makeSlice t l c) (Instr.makeSlice t (val f l) (val f c)):=by
 unfold Instr.makeSlice
 refine r_bind (r_underlying t) ?_
 rintro _ d ⟨rfl,_⟩
 cases d with
 |slice elem=>
  refine r_bind (r_asInt l) ?_
  rintro _ len rfl
  refine r_bind (r_asInt c) ?_
  rintro _ cap rfl
  refine r_bind (r_typeInfo elem) ?_
  rintro _ i ⟨rfl,_⟩
  dsimp only
  refine r_ite (fun _=>?_) (fun _=>?_)
  .refine Dies.rel ?_
   split
   .exact .bind (dies_runtimePanic _) _
   .split
    .exact .bind (dies_runtimePanic _) _
    .exact .after (calm_choose _) fun _=>.bind (dies_runtimePanic _) _
  .refine r_bind (Q:=fun _ _=>True) ?_ ?_
   .unfold askRoom
    exact r_ite (fun _=>r_mark) (fun _=>r_pure trivial)
   rintro _ _ _
   refine r_bind (r_sizeOf _) ?_
   rintro _ s ⟨rfl,_⟩
   refine r_ite (fun h0=>?_) (fun _=>?_)
   .rw[h0]
    refine r_bind (r_pure (Q:=fun a b=>b=a∧a=#[]) ⟨rfl,rfl⟩) ?_
    rintro _ z ⟨rfl,rfl⟩
    rw[show Array.range 0=#[] from rfl,Array.map_empty]
    refine r_bind (by have:=r_newRow (P:=P) (f:=f) (K:=K) elem #[];simpa[vals] using this) ?_
    rintro a _ rfl
    exact r_pure (by simp[ToVal])
   .refine r_bind (r_zeroValue hz elem) ?_
    rintro _ z ⟨rfl,hc⟩
    refine r_bind (r_pure (Q:=fun a b=>b=a∧a=z.cells) ⟨rfl,rfl⟩) ?_
    rintro _ z2 ⟨rfl,rfl⟩
    refine r_bind (by have:=r_newRow (P:=P) (f:=f) (K:=K) elem ((Array.range ((IntKind.i64.wrap cap).toNat*s)).map (z.cells[· % z.cells.size]!));rwa[vals_repeat f hc] at this) ?_
    rintro a _ rfl
    exact r_pure (by simp[ToVal])
 |_=>exact r_stuck
end
theorem meth_struct{info:TypeId→Option TypeInfo}{fs:Array Field}{i:TypeInfo}(h:Made.reckonStruct info fs=some i):i.methods=#[]:=by
 unfold Made.reckonStruct at h
 simp only[Option.bind_eq_bind,Option.pure_def] at h
 rw[Option.bind_eq_some_iff] at h
 obtain⟨r,_,h2⟩:=h
 split at h2<;>(obtain rfl:=Option.some.inj h2;rfl)
theorem meth_reckon{info:TypeId→Option TypeInfo}{d:TypeDesc}{i:TypeInfo}(h:Made.reckon info d=some i):i.methods=#[]:=by
 unfold Made.reckon at h
 cases d<;>dsimp only at h<;>first|(cases h;done)|skip
 case struct fs=>exact meth_struct h
 all_goals
  simp only[Option.bind_eq_bind,Option.pure_def,Option.bind_eq_some_iff] at h
 case slice e=>obtain⟨_,_,_,_,h⟩:=h;obtain rfl:=Option.some.inj h;rfl
 case map k e=>obtain⟨_,_,_,_,_,_,_,_,h⟩:=h;obtain rfl:=Option.some.inj h;rfl
 case chan d e=>obtain⟨_,_,_,_,h⟩:=h;obtain rfl:=Option.some.inj h;rfl
 case func ps rs v=>obtain⟨_,_,h⟩:=h;obtain rfl:=Option.some.inj h;rfl
 case array n e=>obtain⟨i',_,s,_,h⟩:=h;obtain rfl:=Option.some.inj h;rfl
 case pointer e=>
  obtain⟨i',_,h⟩:=h
  split at h
  .cases h
  .split at h
   .cases h
   .rw[Option.bind_eq_some_iff] at h;obtain⟨_,_,h⟩:=h;obtain rfl:=Option.some.inj h;rfl
  .rw[Option.bind_eq_some_iff] at h;obtain⟨_,_,h⟩:=h;obtain rfl:=Option.some.inj h;rfl
theorem meth_infoAt{T:Tables}:∀(n:Nat) {t:TypeId} {i:TypeInfo},T.types.size≤t→Made.infoAt T n t=some i→i.methods=#[]
 |0,_,_,_,h=>by cases h
 |n+1,t,i,ht,h=>by
  unfold Made.infoAt at h
  rw[if_neg (Nat.not_lt.2 ht),Option.bind_eq_some_iff] at h
  obtain⟨d,_,h⟩:=h
  exact meth_reckon h
theorem meth_info{P:Program}{t:TypeId}{i:TypeInfo}(ht:P.types.size≤t)(h:P.info? t=some i):i.methods=#[]:=by
 have h':Tables.info? P.toTables t=some i:=h
 unfold Tables.info? at h'
 rw[if_neg (Nat.not_lt.2 ht)] at h'
 exact meth_infoAt (T:=P.toTables) _ ht h'
end Go.Ren
