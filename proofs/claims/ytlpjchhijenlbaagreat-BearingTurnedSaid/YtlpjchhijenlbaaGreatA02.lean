/- Of the proof of BearingTurned: Ev2 Ev3 Ren5 Ren6 -/
import GoSem.Dispatch
import Derived.Test.YtlpjchhijenlbaaGreatA01
set_option linter.unusedSectionVars false
set_option linter.unusedVariables false
set_option linter.unusedSimpArgs false
section
section
namespace Go
namespace Ev
def look {α:Type} (P:Program):Sem α→Option α
 | .pure a=>some a
 | .program k=>look P (k P)
 | _=>none
mutual
def flat:Value→Bool
 | .bool _ | .int _ _ | .string _ | .nilFunc | .nilIface | .pointer none | .map none | .chan none | .slice none _ _=>true
 | .agg ⟨cs⟩=>ig cs
 | .tuple ⟨cs⟩=>ig cs
 | _=>false
def ig:List Value→Bool
 | []=>true
 | c::cs=>match flat c with
  | true=>ig cs
  | false=>false
end
def nth {α:Type}:List α→Nat→Option α
 | [],_=>none
 | a::l,k=>match k with
  | 0=>some a
  | n+1=>nth l n
def cut {α:Type}:List α→Nat→Nat→Option (List α)
 | l,0,n=>takeN l n
 | [],_+1,n=>takeN [] n
 | _::l,k+1,n=>cut l k n
where takeN:List α→Nat→Option (List α)
 | _,0=>some []
 | [],_+1=>none
 | a::l,n+1=>(takeN l n).map (a :: ·)
def over {α:Type}:List α→Nat→List α→Option (List α)
 | l,0,vs=>CQ l vs
 | [],_+1,vs=>CQ [] vs
 | a::l,k+1,vs=>(over l k vs).map (a :: ·)
where CQ:List α→List α→Option (List α)
 | l,[]=>some l
 | [],_::_=>none
 | _::l,v::vs=>(CQ l vs).map (v :: ·)
def single:Value→Bool
 | .agg _ | .tuple _=>false
 | _=>true
variable (P:Program)
def loads (h:H) (a:Addr) (n:Nat):Option (List Value):=
 match a.spot,h.get a.block with
 | none,some (.cells c _ _)=>cut c a.off n
 | none,some (.shut c _)=>cut c a.off n
 | none,some (.half c _ _ _)=>cut c a.off n
 | _,_=>none
def stores (h:H) (a:Addr) (vs:List Value):Option H:=
 match a.spot,h.get a.block,vs.all single,Nat.blt a.block top with
 | none,some (.cells c e s),true,true=>match over c a.off vs with
  | some c'=>some (h.put a.block (.cells c' e s))
  | none=>none
 | none,some (.half c q e z),true,true=>match over c a.off vs with
  | some c'=>some (h.put a.block (.half c' q e z))
  | none=>none
 | _,_,_,_=>none
def VZ (d:TypeDesc):Bool:=
 match d with
 | .struct _ | .array _ _=>true
 | _=>false
def Qc (h:H) (t:TypeId) (a:Addr):Option Value:=
 match P.underlying t,P.info? t with
 | some d,some i=>match VZ d with
  | true=>match loads h a i.size with
   | some cs=>some (.agg ⟨cs⟩)
   | none=>none
  | false=>match loads h a 1 with
   | some [v]=>some v
   | _=>none
 | _,_=>none
def Bh (h:H) (t:TypeId) (a:Addr) (v:Value):Option H:=
 match P.info? t with
 | some i=>match Nat.beq v.cells.toList.length i.size with
  | true=>stores h a v.cells.toList
  | false=>none
 | none=>none
def P6 (t:TypeId) (cs:List Value) (off:Nat):Option Value:=
 match P.underlying t,P.info? t with
 | some d,some i=>match VZ d with
  | true=>match cut cs off i.size with
   | some l=>some (.agg ⟨l⟩)
   | none=>none
  | false=>nth cs off
 | _,_=>none
def zeroOf (t:TypeId):Option Value:=
 match P.info? t with
 | some i=>match i.zero with
  | some z=>match flat z with
   | true=>some z
   | false=>none
  | none=>none
 | none=>none
def small (i:Int) (y:Nat):Option Nat:=
 match i with
 | .ofNat n=>match Nat.blt n y with
  | true=>some n
  | false=>none
 | .negSucc _=>none
def soft:Nat:=2 ^ 60
def nY (x:Option Value) (d y:Nat):Option Nat:=
 match x with
 | none=>some d
 | some (.int _ i)=>small i (y+1)
 | some _=>none
def pz (a:Addr) (n:Nat):Option Addr:=
 match a.spot with
 | none=>some ⟨a.block,a.off+n,none⟩
 | some _=>none
def AV (lo hi mx:Option Value) (n lim:Nat):Option (Nat × Nat × Option Nat):=
 match mx with
 | none=>match nY hi n lim with
  | some h=>match nY lo 0 h with
   | some l=>some (l,h,none)
   | none=>none
  | none=>none
 | some _=>match hi with
  | none=>none
  | some _=>match nY mx lim lim with
   | some m=>match nY hi n m with
    | some h=>match nY lo 0 h with
     | some l=>some (l,h,some m)
     | none=>none
    | none=>none
   | none=>none
def partOf (a:Addr) (size l h m:Nat):Option Value:=
 match pz a (l*size),Nat.blt m soft with
 | some a',true=>some (.slice (some (match Nat.beq m l with | true=>a | false=>a')) (h - l) (m - l))
 | _,_=>none
def Em (t:TypeId) (x:Value) (lo hi mx:Option Value):Option Value:=
 match P.underlying t,x with
 | some (.slice e),.slice a n cap=>
  match Nat.blt cap soft with
  | true=>match AV lo hi mx n cap,P.info? e with
   | some (l,h,m),some i=>match a with
    | some a=>partOf a i.size l h (m.getD cap)
    | none=>some (.slice none (h - l) (m.getD cap - l))
   | _,_=>none
  | false=>match AV lo hi mx n n,P.info? e,a with
   | some (l,h,some m),some i,some a=>partOf a i.size l h m
   | some (0,h,none),some _,some ⟨b,o,none⟩=>some (.slice (some ⟨b,o,none⟩) h cap)
   | _,_,_=>none
 | some (.array n e),.pointer (some a)=>arr n e a
 | some (.pointer p),.pointer (some a)=>match P.underlying p with
  | some (.array n e)=>arr n e a
  | _=>none
 | _,_=>none
where arr (n:Nat) (e:TypeId) (a:Addr):Option Value:=
  match AV lo hi mx n n,P.info? e with
  | some (l,h,m),some i=>partOf a i.size l h (m.getD n)
  | _,_=>none
def FM (t:TypeId) (x i:Value):Option Value:=
 match i with
 | .int _ i=>match P.underlying t,x with
  | some (.array n e),.pointer (some a)=>at_ n e a i
  | some (.slice e),.slice (some a) n _=>at_ n e a i
  | _,_=>none
 | _=>none
where at_ (n:Nat) (e:TypeId) (a:Addr) (i:Int):Option Value:=
  match small i n,P.info? e with
  | some k,some j=>match pz a (k*j.size) with
   | some a'=>some (.pointer (some a'))
   | none=>none
  | _,_=>none
def OV (t:TypeId) (x:Value) (f:Nat):Option Value:=
 match P.underlying t,x with
 | some (.struct fs),.pointer (some a)=>match nth fs.toList f with
  | some g=>match P.info? g.type with
   | some i=>match Nat.beq i.size 0 with
    | true=>none
    | false=>match pz a g.offset with
     | some a'=>some (.pointer (some a'))
     | none=>none
   | none=>none
  | none=>none
 | _,_=>none
def PU (i:TypeInfo) (z:Value) (k:Nat):Bool:=
 match Nat.blt k 1000000,Nat.blt i.bytes 1000000,Nat.beq i.size 0 with
 | true,true,false=>Nat.beq z.cells.toList.length i.size
 | _,_,_=>false
def vg (h:H) (t:TypeId) (s x:Value):Option (Value × H):=
 match P.underlying t,s,x with
 | some (.slice e),.slice base n cap,.slice _ 0 _=>match Nat.ble n cap,P.info? e with
  | true,some _=>some (.slice base n cap,h)
  | _,_=>none
 | some (.slice e),.slice base n cap,.slice (some xb) m _=>match P.info? e,zeroOf P e with
  | some i,some z=>match loads h xb (m*i.size),PU i z (n+m) with
   | some new,true=>match new.all single with
    | true=>match base with
     | none=>match n,cap with
      | 0,0=>match h.new (.cells new e (some i.size)) with
       | some (r,h')=>some (.slice (some ⟨r,0,none⟩) m soft,h')
       | none=>none
      | _,_=>none
     | some a=>match Nat.blt cap soft with
      | true=>match Nat.ble (n+m) cap with
       | true=>match pz a (n*i.size) with
        | some a'=>match stores h a' new with
         | some h'=>some (.slice (some a) (n+m) cap,h')
         | none=>none
        | none=>none
       | false=>match loads h a (n*i.size) with
        | some old=>match h.new (.cells (old++new) e (some i.size)) with
         | some (r,h')=>some (.slice (some ⟨r,0,none⟩) (n+m) soft,h')
         | none=>none
        | none=>none
      | false=>match a with
       | ⟨b,0,none⟩=>match h.get b,Nat.blt b top with
        | some (.cells c e' (some k)),true=>match Nat.beq c.length (n*i.size),Nat.beq k i.size,Nat.beq e' e with
         | true,true,true=>match (h.kill b).new (.cells (c++new) e' (some k)) with
          | some (r,h')=>some (.slice (some ⟨r,0,none⟩) (n+m) soft,h')
          | none=>none
         | _,_,_=>none
        | _,_=>none
       | _=>none
    | false=>none
   | _,_=>none
  | _,_=>none
 | _,_,_=>none
def PR (h:H) (t:TypeId) (s x:Value):Option (Value × H):=
 match P.underlying t,s,x with
 | some (.slice e),.slice (some ⟨b,0,none⟩) n cap,.slice (some xb) 1 _=>match h.get b,P.info? e,zeroOf P e with
  | some (.lq c e' k),some i,some z=>match loads h xb (1*i.size),PU i z (n+1)&&Nat.blt b top && !Nat.blt cap soft&&Nat.beq c.length n&&(c.all fun l=>Nat.beq l.length k)&&Nat.beq k i.size&&Nat.beq e' e && !Nat.beq xb.block b with
   | some new,true=>match new.all single with
    | true=>match (h.kill b).new (.lq (c++[new]) e' k) with
     | some (r,h')=>some (.slice (some ⟨r,0,none⟩) (n+1) soft,h')
     | none=>none
    | false=>none
   | _,_=>none
  | _,_,_=>none
 | _,_,_=>none
def A7 (h:H) (t:TypeId) (s x:Value):Option (Value × H):=
 match vg P h t s x with
 | some r=>some r
 | none=>PR P h t s x
def copyV (h:H) (t:TypeId) (d x:Value):Option (Value × H):=
 match P.underlying t,d,x with
 | some (.slice e),.slice db dn _,.slice xb xn _=>match P.info? e with
  | some i=>
   let n:=match Nat.ble xn dn with | true=>xn | false=>dn
   match (match xb with | none=>(match n with | 0=>some [] | _+1=>none) | some b=>loads h b (n*i.size)) with
   | some cs=>match db with
    | none=>some (.int .i64 n,h)
    | some a=>match stores h a cs with
     | some h'=>some (.int .i64 n,h')
     | none=>none
   | none=>none
  | none=>none
 | _,_,_=>none
def dJ {α:Type} (z:List α):Nat→List α
 | 0=>[]
 | n+1=>z++dJ z n
def AB (es:List MapEntry):Bool:=es.all fun e=>match flat e.key with | true=>flat e.val | false=>false
inductive R (α:Type) where
 | fail
 | one (a:α)
 | more (a:α) (r:R α)
def R.mem {α:Type} (a:α):R α→Prop
 | .fail=>False
 | .one b=>a=b
 | .more b r=>a=b∨r.mem a
def R.ok {α:Type}:R α→Bool
 | .fail=>false
 | .one _=>true
 | .more _ r=>r.ok
def R.ofOption {α:Type}:Option α→R α
 | none=>.fail
 | some a=>.one a
def R.app {α:Type}:R α→R α→R α
 | .fail,_=>.fail
 | .one a,s=>.more a s
 | .more a r,s=>.more a (r.app s)
def R.bind {α β:Type}:R α→(α→R β)→R β
 | .fail,_=>.fail
 | .one a,f=>f a
 | .more a r,f=>(f a).app (r.bind f)
def opts (ρ:Operand→Option Value):List Operand→Option (List Value)
 | []=>some []
 | x::xs=>match ρ x,opts ρ xs with
  | some v,some vs=>some (v::vs)
  | _,_=>none
def opt (ρ:Operand→Option Value):Option Operand→Option (Option Value)
 | none=>some none
 | some x=>match ρ x with
  | some v=>some (some v)
  | none=>none
def places:List (Nat × TypeId)→Option (List (Nat × Nat))
 | []=>some []
 | (off,t)::fs=>match P.info? t,places fs with
  | some i,some l=>some ((off,i.size)::l)
  | _,_=>none
def CX (v:Option Value):Option Value:=
 match v with
 | some v=>match flat v with
  | true=>some v
  | false=>none
 | none=>none
def Vy (op:BinOp) (a b:Value):Option Value:=
 match a,b with
 | .int .i64 (.ofNat m),.int .i64 (.ofNat n)=>match op with
  | .add=>match Nat.blt (m+n) 4611686018427387904 with
   | true=>some (.int .i64 (.ofNat (m+n)))
   | false=>none
  | .eql=>some (.bool (Nat.beq m n))
  | .neq=>some (.bool (!Nat.beq m n))
  | .lss=>some (.bool (Nat.blt m n))
  | .gtr=>some (.bool (Nat.blt n m))
  | .leq=>some (.bool (Nat.ble m n))
  | .geq=>some (.bool (Nat.ble n m))
  | _=>none
 | _,_=>none
def Vw (op:BinOp) (a b:Value):Option Value:=
 match op with
 | .eql | .neq | .lss | .gtr | .leq | .geq=>Vy op a b
 | _=>none
def Hl:TypeDesc→Value→Value→Bool
 | .slice _,.slice (some _) _ _,.slice none _ _=>true
 | .slice _,.slice none _ _,.slice (some _) _ _=>true
 | .pointer _,.pointer (some _),.pointer none=>true
 | .pointer _,.pointer none,.pointer (some _)=>true
 | .map _ _,.map (some _),.map none=>true
 | .map _ _,.map none,.map (some _)=>true
 | .func _ _ _,.func _ _ _,.nilFunc=>true
 | .func _ _ _,.nilFunc,.func _ _ _=>true
 | _,_,_=>false
def jQ (ρ:Operand→Option Value) (o:Op):Option Value:=
 match o with
 | .move x | .assign x=>ρ x
 | .pick c a b=>match ρ c with
  | some (.bool true)=>ρ a
  | some (.bool false)=>ρ b
  | _=>none
 | .nilCheck x=>match ρ x with
  | some (.pointer (some a))=>some (.pointer (some a))
  | _=>none
 | .fieldAddr t x f=>match ρ x with
  | some v=>OV P t v f
  | none=>none
 | .indexAddr t x i=>match ρ x,ρ i with
  | some v,some i=>FM P t v i
  | _,_=>none
 | .slice t x lo hi mx=>match ρ x,opt ρ lo,opt ρ hi,opt ρ mx with
  | some v,some lo,some hi,some mx=>Em P t v lo hi mx
  | _,_,_,_=>none
 | .field t x f=>match P.underlying t,ρ x with
  | some (.struct fs),some (.agg ⟨cs⟩)=>match nth fs.toList f with
   | some g=>P6 P g.type cs g.offset
   | none=>none
  | _,_=>none
 | .index t x i=>match P.underlying t,ρ x,ρ i with
  | some (.array n e),some (.agg ⟨cs⟩),some (.int _ i)=>match small i n,P.info? e with
   | some k,some j=>P6 P e cs (k*j.size)
   | _,_=>none
  | some .string,some (.string s),some (.int k i)=>CX (look P (Instr.index t (.string s) (.int k i)))
  | _,_,_=>none
 | .extract x k=>match ρ x with
  | some (.tuple ⟨vs⟩)=>nth vs k
  | _=>none
 | .makeFunc fn a b=>match opts ρ a.toList,opts ρ b.toList,(match fn with | .func _=>true | _=>false) with
  | some a,some b,true=>some (.func fn ⟨a⟩ ⟨b⟩)
  | _,_,_=>none
 | .build t ps=>match opts ρ (ps.toList.map (·.2)),zeroOf P t with
  | some vs,some z=>match P.underlying t with
   | some (.struct fs)=>match places P (fs.toList.map fun f=>(f.offset,f.type)) with
    | some pl=>match Instr.fill (fun i=>nth pl i) z.cells ((ps.toList.map (·.1)).zip vs) with
     | some cs=>some (.agg cs)
     | none=>none
    | none=>none
   | some (.array _ e)=>match P.info? e with
    | some j=>match Instr.fill (fun i=>some (i*j.size,j.size)) z.cells ((ps.toList.map (·.1)).zip vs) with
     | some cs=>some (.agg cs)
     | none=>none
    | none=>none
   | _=>none
  | _,_=>none
 | .call c=>match c.callee,opts ρ c.args.toList with
  | .builtin .len,some [.slice _ n _]=>match (match c.argTypes[0]? with | some t=>P.underlying t | none=>none) with
   | some (.slice _)=>some (.int .i64 n)
   | _=>none
  | .builtin .cap,some [.slice _ _ n]=>match Nat.blt n soft,(match c.argTypes[0]? with | some t=>P.underlying t | none=>none) with
   | true,some (.slice _)=>some (.int .i64 n)
   | _,_=>none
  | .builtin .min,some (x::xs)=>match ig (x::xs) with
   | true=>CX (look P (Builtin.min_ #[] 0 ⟨x::xs⟩))
   | false=>none
  | .builtin .max,some (x::xs)=>match ig (x::xs) with
   | true=>CX (look P (Builtin.max_ #[] 0 ⟨x::xs⟩))
   | false=>none
  | _,_=>none
 | .binOp op t x y _=>match ρ x,ρ y with
  | some a,some b=>match Vw op a b with
   | some v=>some v
   | none=>match flat a,flat b with
    | true,true=>match look P (eqGuard op t x y a b) with
     | some _=>CX (look P (binOp op t a b))
     | none=>none
    | _,_=>match P.underlying t with
     | some d=>match Hl d a b with
      | true=>match op with
       | .eql=>some (.bool false)
       | .neq=>some (.bool true)
       | _=>none
      | false=>none
     | none=>none
  | _,_=>none
 | .unOp op _ x=>match ρ x with
  | some a=>match flat a with
   | true=>CX (look P (Op.unary op a))
   | false=>none
  | none=>none
 | .convert s d x=>match ρ x with
  | some a=>match flat a with
   | true=>CX (look P (convert s d a))
   | false=>none
  | none=>none
 | _=>none
def qh (o:Op):Bool:=
 match o with
 | .move _ | .assign _ | .pick .. | .nilCheck _ | .fieldAddr .. | .indexAddr .. | .slice .. | .field .. | .index .. | .extract .. | .makeFunc .. | .build .. | .binOp .. | .unOp .. | .convert ..=>true
 | .call c=>match c.callee with
  | .builtin .len | .builtin .cap | .builtin .min | .builtin .max=>true
  | _=>false
 | _=>false
def made (r:Option (Nat × H)) (k:Nat→Value):R (Value × H):=
 match r with
 | some (b,h')=>.one (k b,h')
 | none=>.fail
def done (r:Option H):R (Value × H):=
 match r with
 | some h'=>.one (.tuple #[],h')
 | none=>.fail
def MC (h:H) (r m since clock:Nat) (seen:List Nat) (e:MapEntry):List MapEntry→R (Value × H)
 | []=>.one (.tuple #[.bool true,e.key,e.val],h.put r (.iter (some m) since (seen++[e.born]) clock))
 | e'::es=>.more (.tuple #[.bool true,e.key,e.val],h.put r (.iter (some m) since (seen++[e.born]) clock)) (MC h r m since clock seen e' es)
def fE (ρ:Operand→Option Value) (o:Op) (h:H):R (Value × H):=
 match o with
 | .alloc t=>match zeroOf P t with
  | some z=>made (h.new (.cells z.cells.toList t none)) fun b=>.pointer (some ⟨b,0,none⟩)
  | none=>.fail
 | .box t x=>match ρ x with
  | some v=>match v.cells.toList.all single with
   | true=>made (h.new (.cells v.cells.toList t none)) fun b=>.pointer (some ⟨b,0,none⟩)
   | false=>.fail
  | none=>.fail
 | .load t x=>match ρ x with
  | some (.pointer (some a))=>match Qc P h t a with
   | some v=>.one (v,h)
   | none=>.fail
  | _=>.fail
 | .store t x y=>match ρ x,ρ y with
  | some (.pointer (some a)),some v=>done (Bh P h t a v)
  | _,_=>.fail
 | .makeMap t none=>match P.underlying t with
  | some (.map _ _)=>made (h.new (.map [] 0)) fun b=>.map (some b)
  | _=>.fail
 | .buildSlice t len ps=>match opts ρ (ps.toList.map (·.2)),P.underlying t with
  | some vs,some (.slice e)=>match P.info? e,zeroOf P e with
   | some j,some z=>match Nat.ble (len*j.size) (2 ^ 24),Nat.beq z.cells.toList.length j.size,Nat.beq j.size 0 with
    | true,true,false=>match Instr.fill (fun i=>some (i*j.size,j.size)) ⟨dJ z.cells.toList len⟩ ((ps.toList.map (·.1)).zip vs) with
     | some ⟨cs⟩=>made (h.new (.cells cs e none)) fun b=>.slice (some ⟨b,0,none⟩) len len
     | none=>.fail
    | _,_,_=>.fail
   | _,_=>.fail
  | _,_=>.fail
 | .makeSlice t l c=>match P.underlying t,ρ l,ρ c with
  | some (.slice e),some (.int _ l),some (.int _ c)=>match small l 1000000,small c 1000000,P.info? e,zeroOf P e with
   | some l,some c,some j,some z=>match Nat.ble l c,Nat.beq z.cells.toList.length j.size,Nat.beq j.size 0,Nat.blt j.bytes 1000000 with
    | true,true,false,true=>made (h.new (.cells (dJ z.cells.toList c) e none)) fun b=>.slice (some ⟨b,0,none⟩) l c
    | _,_,_,_=>.fail
   | _,_,_,_=>.fail
  | _,_,_=>.fail
 | .lookup t x i ok=>match P.underlying t,ρ x,ρ i with
  | some (.map k e),some (.map (some r)),some i=>match h.get r,flat i with
   | some (.map es _),true=>match look P (Instr.checkKey es.isEmpty 10000 k i),look P (Instr.findKey k i es),zeroOf P e with
    | some _,some (some (_,v)),_=>match flat v with
     | true=>.one (match ok with | true=>.tuple #[v,.bool true] | false=>v,h)
     | false=>.fail
    | some _,some none,some z=>.one (match ok with | true=>.tuple #[z,.bool false] | false=>z,h)
    | _,_,_=>.fail
   | _,_=>.fail
  | _,_,_=>.fail
 | .mapUpdate t m k x | .insert t m k x=>match P.underlying t,ρ m,ρ k,ρ x with
  | some (.map kt _),some (.map (some r)),some k,some x=>match h.get r,flat k,flat x,Nat.blt r top with
   | some (.map es c),true,true,true=>match look P (Instr.checkKey false 10000 kt k),look P (Instr.findKey kt k es) with
    | some _,some (some (i,_))=>match look P (Instr.keyThatStays (((es[i]?).map (·.key)).getD k) k) with
     | some k'=>.one (.tuple #[],h.put r (.map (es.modify i fun e=>{ e with key:=k',val:=x }) c))
     | none=>.fail
    | some _,some none=>.one (.tuple #[],h.put r (.map (es++[{ key:=k,val:=x,born:=c }]) (c+1)))
    | _,_=>.fail
   | _,_,_,_=>.fail
  | _,_,_,_=>.fail
 | .range t x=>match P.underlying t,ρ x with
  | some (.map _ _),some (.map (some r))=>match h.get r with
   | some (.map _ c)=>made (h.new (.iter (some r) c [] c)) fun b=>.pointer (some ⟨b,0,none⟩)
   | _=>.fail
  | _,_=>.fail
 | .next x false=>match ρ x with
  | some (.pointer (some ⟨r,0,none⟩))=>match h.get r,Nat.blt r top with
   | some (.iter (some m) since seen stepped),true=>match h.get m with
    | some (.map es c)=>match es.all fun e=>Nat.blt e.born since,(match seen with | []=>true | _::_=>es.any fun e=>Nat.blt e.born stepped) with
     | true,true=>match es.filter fun e=>!seen.contains e.born with
      | []=>.one (.tuple #[.bool false],h)
      | e::l=>MC h r m since c seen e l
     | _,_=>.fail
    | _=>.fail
   | _,_=>.fail
  | _=>.fail
 | .entry x=>match ρ x with
  | some (.pointer (some ⟨r,0,none⟩))=>match h.get r with
   | some (.iter (some m) _ seen stepped)=>match h.get m,seen.getLast? with
    | some (.map es c),some stamp=>match Nat.beq c stepped,es.find? fun e=>Nat.beq e.born stamp with
     | true,some e=>.one (.tuple #[e.key,e.val],h)
     | _,_=>.fail
    | _,_=>.fail
   | _=>.fail
  | _=>.fail
 | .call c=>match c.callee,opts ρ c.args.toList with
  | .builtin .append,some [s,x]=>match c.argTypes[0]?,c.argTypes[1]? with
   | some t,some t1=>match Nat.beq t t1,A7 P h t s x with
    | true,some r=>.one r
    | _,_=>.fail
   | _,_=>.fail
  | .builtin .copy,some [d,x]=>match c.argTypes[0]? with
   | some t=>.ofOption (copyV P h t d x)
   | none=>.fail
  | .builtin .len,some [.map (some r)]=>.fail
  | _,_=>.fail
 | _=>.fail
end Ev
end Go
end
end
section
section
namespace Go
namespace Ev
inductive Ex where
 | normal | ret
 | exit (id:Nat)
structure St where
 t:T Value
 h:H
 marks:List Nat
def jl (t:T Value) (n:Nat) (d:Option Tmp) (v:Value):Option (T Value):=
 match d with
 | none=>some t
 | some d=>match Nat.blt d n,Nat.blt d top with
  | true,true=>some (T.put T.deep t d (some v))
  | _,_=>none
def aG (t:T Value):Operand→Option Value
 | .tmp d=>t.get d
 | .const v=>match flat v with | true=>some v | false=>none
 | .global _=>none
 | .func f=>some (.func (.func f) #[] #[])
def jH (ops:List Oper) (t:T Value) (o:Oper):Option Bool:=
 match o.guard with
 | none=>some true
 | some (j,want)=>match nth ops j with
  | some oj=>match oj.dst with
   | some d=>match t.get d with
    | some (.bool b)=>some (b==want)
    | some (.tuple _)=>some false
    | _=>none
   | none=>some false
  | none=>some false
def callee (v:Value) (args:List Value):Option (Fn × List Value):=
 match v with
 | .func (.func f) ⟨a⟩ ⟨b⟩=>some (.func f,a++args++b)
 | .func (.yield l) ⟨a⟩ ⟨_⟩=>some (.yield l,a++args)
 | _=>none
def nO (ops:List Oper):Nat→Nat→Nat→Bool
 | 0,_,_=>false
 | k+1,j,i=>match nth ops i with
  | some o=>o.after.toList.any fun e=>match Region.binds .any e with
   | true=>match Nat.beq e.on j with
    | true=>true
    | false=>nO ops k j e.on
   | false=>false
  | none=>false
def Ry (ops:List Oper) (i j:Nat):Bool:=
 match nO ops ops.length i j with
 | true=>true
 | false=>nO ops ops.length j i
def iP (ops:List Oper) (o:Oper):List Nat:=
 (o.op.operands.toList.filterMap fun | .tmp d=>some d | _=>none)++(match o.guard with
  | some (j,_)=>match nth ops j with
   | some oj=>oj.dst.toList
   | none=>[]
  | none=>[])
def upto:Nat→List Nat
 | 0=>[]
 | n+1=>upto n++[n]
def Gf (ops:List Oper):Bool:=
 (upto ops.length).all fun i=>match nth ops i with
  | some oi=>(oi.after.toList.all fun e=>match Region.binds .any e with | true=>Nat.blt e.on i | false=>true) &&
   (match oi.dst with
   | some d=>(upto ops.length).all fun j=>match Nat.beq i j with
    | true=>true
    | false=>match nth ops j with
     | some oj=>match (match oj.dst with | some d'=>Nat.beq d' d | none=>false),(iP ops oj).any fun d'=>Nat.beq d' d with
      | false,false=>true
      | _,_=>Ry ops i j
     | none=>false
   | none=>true)
  | none=>false
structure Rec where
 i:Nat
 h0:H
 h1:H
def lay (h1:H):List Nat→T Ob→T Ob
 | [],t=>t
 | b::l,t=>T.put T.deep (lay h1 l t) b (h1.get b)
def narrow (t:T Value) (o:Op) (m:T Ob):T Ob:=
 match (match o with | .load _ x=>some x | .store _ x _=>some x | _=>none) with
 | some x=>match aG t x with
  | some (.pointer (some a))=>match m.get a.block,Nat.blt a.block top with
   | some ob,true=>T.put T.deep .nil a.block (some ob)
   | _,_=>.nil
  | _=>m
 | none=>m
def Under (m m':T Ob):Prop:=∀ b o,m.get b=some o→m'.get b=some o
theorem Jv (t:T Value) (o:Op) (m:T Ob):Under (narrow t o m) m:=fun b ob h=>by
 unfold narrow at h
 split at h
 ·split at h
  ·split at h
   ·rename_i hg hb
    rw [Nat.blt_eq] at hb
    rw [T.get_put _ _ _ _ _ (aO hb)] at h
    split at h
    ·rename_i e;cases h;subst e;exact hg
    ·cases h
   ·cases h
  ·exact h
 ·exact h
def behind (ops:List Oper) (i:Nat) (t:T Ob):List Rec→T Ob
 | []=>t
 | r::rs=>match nO ops ops.length r.i i with
  | true=>lay r.h1 r.h1.log (behind ops i t rs)
  | false=>behind ops i t rs
def untouched (h:H):List Nat→Bool
 | []=>true
 | b::l=>match h.get b with
  | none=>untouched h l
  | some _=>false
def apartB (ops:List Oper) (r:Rec):List Rec→Bool
 | []=>true
 | s::rs=>match Ry ops r.i s.i with
  | true=>apartB ops r rs
  | false=>match untouched r.h0 s.h1.log,untouched s.h0 r.h1.log with
   | true,true=>apartB ops r rs
   | _,_=>false
def xB (ops:List Oper):List Rec→Bool
 | []=>true
 | r::rs=>match apartB ops r rs with
  | true=>xB ops rs
  | false=>false
section
variable (P:Program) (inv:Fn→List Value→H→R (Value × H))
def YA (t:T Value) (h:H) (o:Op):R (Value × H):=
 match qh o with
 | true=>match jQ P (aG t) o with
  | some v=>.one (v,h)
  | none=>.fail
 | false=>match o with
  | .call c=>match c.callee with
   | .value f=>match aG t f,opts (aG t) c.args.toList with
    | some v,some args=>match callee v args with
     | some (g,args)=>inv g args h
     | none=>.fail
    | _,_=>.fail
   | _=>fE P (aG t) o h
  | _=>fE P (aG t) o h
def opsL (n:Nat) (all:List Oper):List Oper→St→R St
 | [],s=>.one s
 | o::l,s=>match jH all s.t o with
  | some true=>(YA P inv s.t s.h o.op).bind fun x=>match jl s.t n o.dst x.1 with
    | some t=>opsL n all l ⟨t,x.2,s.marks⟩
    | none=>.fail
  | some false=>match jl s.t n o.dst (.tuple #[]) with
   | some t=>opsL n all l ⟨t,s.h,s.marks⟩
   | none=>.fail
  | none=>.fail
def Xf (n:Nat) (all:List Oper) (t0:T Ob):List Oper→Nat→T Value→Nat→List Rec→Option (T Value × Nat × List Rec)
 | [],_,t,nx,rs=>some (t,nx,rs)
 | o::l,i,t,nx,rs=>match jH all t o with
  | some true=>match qh o.op with
   | true=>match jQ P (aG t) o.op with
    | some v=>match jl t n o.dst v with
     | some t=>Xf n all t0 l (i+1) t nx rs
     | none=>none
    | none=>none
   | false=>match YA P inv t ⟨behind all i t0 rs,nx,[]⟩ o.op with
    | .one (v,h1)=>match jl t n o.dst v with
     | some t=>Xf n all t0 l (i+1) t h1.next (⟨i,⟨behind all i t0 rs,nx,[]⟩,h1⟩::rs)
     | none=>none
    | _=>none
  | some false=>match jl t n o.dst (.tuple #[]) with
   | some t=>Xf n all t0 l (i+1) t nx rs
   | none=>none
  | none=>none
def layAll (t:T Ob):List Rec→T Ob
 | []=>t
 | r::rs=>lay r.h1 r.h1.log (layAll t rs)
def gu:List Rec→List Nat
 | []=>[]
 | r::rs=>r.h1.log++gu rs
def drawn (n:Nat) (ops:List Oper) (s:St):R St:=
 match Gf ops with
 | true=>match Xf P inv n ops s.h.t ops 0 s.t s.h.next [] with
  | some (t,nx,rs)=>match xB ops rs with
   | true=>.one ⟨t,⟨layAll s.h.t rs,nx,gu rs++s.h.log⟩,s.marks⟩
   | false=>.fail
  | none=>.fail
 | false=>.fail
def YE (f:St→R (Ex × St)):Nat→St→R (Ex × St)
 | 0,_=>.fail
 | k+1,s=>(f s).bind fun x=>match x.1 with
  | .normal=>YE f k x.2
  | _=>.one x
def JD (j:Option Code):Option Ex:=
 match j with
 | none=>some .normal
 | some .ret=>some .ret
 | some (.exit id)=>some (.exit id)
 | _=>none
def ranged (s:St) (f:Operand) (l:Nat) (marks:List Nat) (h:H):R (Ex × St):=
 match aG s.t f with
 | none=>.fail
 | some v=>match callee v [.func (.yield l) #[] #[]] with
  | none=>.fail
  | some (g,args)=>(inv g args h).bind fun x=>match x.2.get l,Nat.blt l top with
   | some (.loop st j f' t' n' ps' as' b' d'),true=>match st with
    | .busy=>.fail
    | _=>match JD j with
     | some e=>.one (e,⟨s.t,x.2.put l (.loop .exhausted j f' t' n' ps' as' b' d'),marks⟩)
     | none=>.fail
   | _,_=>.fail
def code (fn:FuncId) (n:Nat) (rd:Option Nat):Code→St→R (Ex × St)
 | .skip,s | .label _,s=>.one (.normal,s)
 | .region _ ops false,s=>(opsL P inv n ops.toList ops.toList s).bind fun s'=>.one (.normal,s')
 | .region _ ops true,s=>(drawn P inv n ops.toList s).bind fun s'=>.one (.normal,s')
 | .seq a b,s=>(code fn n rd a s).bind fun x=>match x.1 with
  | .normal=>code fn n rd b x.2
  | _=>.one x
 | .cond c a b,s=>match aG s.t c with
  | some (.bool true)=>code fn n rd a s
  | some (.bool false)=>code fn n rd b s
  | _=>.fail
 | .block id b,s=>(code fn n rd b s).bind fun x=>match x.1 with
  | .exit i=>match Nat.beq i id with
   | true=>.one (.normal,x.2)
   | false=>.one x
  | _=>.one x
 | .loop b,s=>YE (code fn n rd b) 100000 s
 | .scope b,s=>code fn n rd b s
 | .rangeFunc f ps as b,s=>
  match rd with
  | none=>match s.h.new (.calls true) with
   | some (r,h)=>match h.new (.loop .ready none fn s.t n ps as b r) with
    | some (l,h)=>ranged inv s f l (r::s.marks) h
    | none=>.fail
   | none=>.fail
  | some l=>match s.h.get l with
   | some (.loop _ _ _ _ _ _ _ _ d)=>match s.h.new (.loop .ready none fn s.t n ps as b d) with
    | some (l,h)=>ranged inv s f l s.marks h
    | none=>.fail
   | _=>.fail
 | .exit id,s=>.one (.exit id,s)
 | .ret,s=>.one (.ret,s)
 | _,_=>.fail
def qI:Nat→List Value→T Value→Option (T Value)
 | _,[],t=>some t
 | i,v::vs,t=>match Nat.blt i top with
  | true=>qI (i+1) vs (T.put T.deep t i (some v))
  | false=>none
def tJ:List Nat→H→Option H
 | [],h=>some h
 | r::rs,h=>match h.get r,Nat.blt r top with
  | some (.calls true),true=>tJ rs (h.put r (.calls false))
  | _,_=>none
def pU (t:T Value) (h:H):List ResultVar→Option (List Value)
 | []=>some []
 | .tmp d::rs=>match t.get d,pU t h rs with
  | some v,some vs=>some (v::vs)
  | _,_=>none
 | .cell d ty::rs=>match t.get d with
  | some (.pointer (some a))=>match Qc P h ty a,pU t h rs with
   | some v,some vs=>some (v::vs)
   | _,_=>none
  | _=>none
def oD (t:T Value) (h:H) (rs:List ResultVar):Option Value:=
 match pU P t h rs with
 | some [v]=>some v
 | some vs=>some (.tuple ⟨vs⟩)
 | none=>none
def uJ:List Tmp→List Value→Nat→T Value→Option (T Value)
 | [],[],_,t=>some t
 | d::ds,v::vs,n,t=>match jl t n (some d) v with
  | some t=>uJ ds vs n t
  | none=>none
 | _,_,_,_=>none
def leave (fn:Func) (x:Ex × St):R (Value × H):=
 match x.1 with
 | .exit _=>.fail
 | _=>match tJ x.2.marks x.2.h with
  | some h=>match oD P x.2.t h fn.results.toList with
   | some v=>.one (v,h)
   | none=>.fail
  | none=>.fail
def endR (l:Nat) (x:Ex × St):R (Value × H):=
 match x.2.h.get l,Nat.blt l top,x.2.marks with
 | some (.loop _ _ f2 t2 n2 ps2 as2 b2 d2),true,[]=>match x.1 with
  | .normal=>.one (.bool true,x.2.h.put l (.loop .ready none f2 t2 n2 ps2 as2 b2 d2))
  | .ret=>.one (.bool false,x.2.h.put l (.loop .done (some .ret) f2 t2 n2 ps2 as2 b2 d2))
  | .exit id=>.one (.bool false,x.2.h.put l (.loop .done (some (.exit id)) f2 t2 n2 ps2 as2 b2 d2))
 | _,_,_=>.fail
def bodyR (f:FuncId) (n:Nat) (l:Nat) (b:Code) (x:Ex × St):R (Value × H):=
 match x.1,x.2.h.get l,Nat.blt l top,x.2.marks with
 | .normal,some (.loop .ready j f1 t1 n1 ps1 as1 b1 d1),true,[]=>
  (code P inv f n (some l) b ⟨x.2.t,x.2.h.put l (.loop .busy j f1 t1 n1 ps1 as1 b1 d1),[]⟩).bind (endR l)
 | _,_,_,_=>.fail
end
mutual
def sameV:Value→Value→Bool
 | .bool a,.bool b=>a==b
 | .int j a,.int k b=>match decide (j=k) with | true=>a==b | false=>false
 | .agg ⟨a⟩,.agg ⟨b⟩=>NQ a b
 | _,_=>false
def NQ:List Value→List Value→Bool
 | [],[]=>true
 | a::l,b::m=>match sameV a b with
  | true=>NQ l m
  | false=>false
 | _,_=>false
end
def Qw (k:Nat):List Nat→Bool
 | []=>true
 | b::l=>match Nat.ble k b with
  | true=>Qw k l
  | false=>false
def alike (k r n:Nat) (c:List Value) (e:TypeId) (s:Nat):R (Value × H)→Option Nat
 | .fail=>none
 | .one x=>one x
 | .more x l=>match one x,alike k r n c e s l with
  | some a,some b=>some (match Nat.ble a b with | true=>b | false=>a)
  | _,_=>none
where one (x:Value × H):Option Nat:=
  match x.1 with
  | .slice (some ⟨r',0,none⟩) n' cap=>match Nat.beq r' r,Nat.beq n' n,Nat.beq cap soft,x.2.get r',Qw k x.2.log with
   | true,true,true,some (.cells c' e' (some s')),true=>match NQ c' c,Nat.beq e' e,Nat.beq s' s with
    | true,true,true=>some x.2.next
    | _,_,_=>none
   | _,_,_,_,_=>none
  | _=>none
def merged (h:H) (x:R (Value × H)):R (Value × H):=
 match x with
 | .one (v,h')=>.one (v,⟨h'.t,h'.next,h'.log++h.log⟩)
 | .more (.slice (some ⟨r,0,none⟩) n cap,h1) l=>match h1.get r with
  | some (.cells c e (some s))=>match alike h.next r n c e s (.more (.slice (some ⟨r,0,none⟩) n cap,h1) l),Nat.blt r top,Nat.ble h.next r with
   | some nx,true,true=>.one (.slice (some ⟨r,0,none⟩) n cap,⟨T.put T.deep h.t r (some (.cells c e (some s))),nx,r::h.log⟩)
   | _,_,_=>.fail
  | _=>.fail
 | _=>.fail
def inv (P:Program) (mg:FuncId→Bool):Nat→Fn→List Value→H→R (Value × H)
 | 0,_,_,_=>.fail
 | d+1,.func f,args,h=>match P.funcs[f]? with
  | some fn=>match fn.body,qI 0 args .nil,fn.name == "runtime.NumGoroutine" with
   | some c,some t,false=>match mg f with
    | true=>merged h ((code P (inv P mg d) f (args.length+(fn.ntmps - args.length)) none c ⟨t,⟨h.t,h.next,[]⟩,[]⟩).bind (leave P fn))
    | false=>(code P (inv P mg d) f (args.length+(fn.ntmps - args.length)) none c ⟨t,h,[]⟩).bind (leave P fn)
   | _,_,_=>.fail
  | none=>.fail
 | d+1,.yield l,args,h=>match h.get l with
  | some (.loop _ _ f t n ps as b _)=>match uJ ps.toList args n t with
   | some t'=>(code P (inv P mg d) f n (some l) as ⟨t',h,[]⟩).bind (bodyR P (inv P mg d) f n l b)
   | none=>.fail
  | _=>.fail
 | _+1,_,_,_=>.fail
end Ev
end Go
end
end
section
section
namespace Go
namespace Ren
variable [Fr]
variable {P:Program} {f:Nat→Nat} {K:Kd}
def Closed (v:Value):Prop:=∀ f:Nat→Nat,val f v=v
def flat:Value→Bool
 | .bool _ | .int .. | .float .. | .complex .. | .string _ | .pointer none | .slice none _ _ | .map none | .chan none | .nilFunc | .nilIface=>true
 | _=>false
mutual
def aQ:Value→Bool
 | .agg ⟨cs⟩ | .tuple ⟨cs⟩=>nK cs
 | .func .. | .iface ..=>false
 | .pointer (some _) | .slice (some _) _ _ | .map (some _) | .chan (some _)=>false
 | _=>true
def nK:List Value→Bool
 | []=>true
 | v::l=>aQ v&&nK l
end
mutual
theorem aH:∀ {v:Value},aQ v=true→Closed v
 | .agg ⟨cs⟩,h=>fun f=>by
  rw [cO]
  have:=qH (l:=cs) (by simpa only [aQ] using h) f
  unfold vals
  rw [List.map_toArray,this]
 | .tuple ⟨cs⟩,h=>fun f=>by
  rw [bY]
  have:=qH (l:=cs) (by simpa only [aQ] using h) f
  unfold vals
  rw [List.map_toArray,this]
 | .bool _,_ | .int _ _,_ | .float _ _,_ | .complex _ _ _,_ | .string _,_ | .nilFunc,_ | .nilIface,_ | .pointer none,_ | .slice none _ _,_ | .map none,_ | .chan none,_=>fun f=>by simp
 | .func _ _ _,h | .iface _ _,h=>by simp [aQ] at h
 | .pointer (some _),h | .slice (some _) _ _,h | .map (some _),h | .chan (some _),h=>by simp [aQ] at h
theorem qH:∀ {l:List Value},nK l=true→∀ f:Nat→Nat,l.map (val f)=l
 | [],_,_=>rfl
 | v::l,h,f=>by
  simp only [nK,Bool.and_eq_true] at h
  rw [List.map_cons,aH h.1 f,qH h.2 f]
end
theorem JJ {v:Value} (h:flat v=true):aQ v=true:=by
 unfold flat at h
 split at h<;>first | (simp [aQ];done) | cases h
theorem MG {l:List Value} (h:∀ c∈l,aQ c=true):nK l=true:=by
 induction l with
 | nil=>rfl
 | cons v l ih=>simp only [nK,Bool.and_eq_true];exact ⟨h v (by simp),ih fun c hc=>h c (by simp [hc])⟩
theorem Dh:∀ {l:List Value},nK l=true→∀ c∈l,aQ c=true
 | v::l,h,c,hc=>by
  simp only [nK,Bool.and_eq_true] at h
  rcases List.mem_cons.1 hc with rfl | hc
  ·exact h.1
  ·exact Dh h.2 c hc
theorem xk {cs:Array Value} (h:∀ c∈cs,aQ c=true):aQ (.agg cs)=true:=by
 obtain ⟨cs⟩:=cs
 simp only [aQ]
 exact MG fun c hc=>h c (by simpa using hc)
theorem Hr {z:Value} (h:aQ z=true):∀ c∈z.cells,aQ c=true:=by
 cases z<;>first | (intro c hc;simp only [Value.cells,Array.mem_singleton] at hc;subst hc;exact h) | skip
 case agg cs=>
  obtain ⟨cs⟩:=cs
  exact fun c hc=>Dh (by simpa only [aQ] using h) c (by simpa [Value.cells] using hc)
def aN (P:Program):Prop:=∀ t i z,P.info? t=some i→i.zero=some z→aQ z=true
theorem af {α β:Type} {Q:α→β→Prop} {a:α} {b:β} (h:Q a b):ak P f K Q (pure a) (pure b):=.pure h
theorem ae {α β γ δ:Type} {Q:α→β→Prop} {Q':γ→δ→Prop} {s:Sem α} {s':Sem β} {g:α→Sem γ} {g':β→Sem δ}
  (h:ak P f K Q s s') (hg:∀ a b,Q a b→ak P f K Q' (g a) (g' b)):ak P f K Q' (s >>= g) (s' >>= g'):=ak.bind h hg
theorem oM (m:String):kJ (.stuck m):=⟨fun _ h=>(by cases h),rfl⟩
theorem oO (v:Value):kJ (.panic v):=⟨fun _ h=>(by cases h),rfl⟩
theorem ah {α β:Type} {Q:α→β→Prop} {m:String} {s':Sem β}:ak P f K Q (stuck m) s':=.halt (oM m)
theorem az {α β:Type} {Q:α→β→Prop} {u:Unsupported} {s':Sem β} (hn:kJ (.unsupported u):=by exact ⟨(by intro _ h;cases h),rfl⟩):ak P f K Q (unsupported u) s':=.halt hn
theorem Dies.rel {α β:Type} {Q:α→β→Prop} {s:Sem α} {s':Sem β} (h:Dies P K s):ak P f K Q s s':=.dies h
theorem Dies.halt {α:Type} (h:Halt) (hn:kJ h):Dies P K (.halt h:Sem α):=fun v es hv=>⟨h,v,es,rfl,hn,hv⟩
theorem Dies.bind {α β:Type} {s:Sem α} (h:Dies P K s) (g:α→Sem β):Dies P K (s >>= g):=fun v es hv=>by
 obtain ⟨x,v1,es1,h1,h2⟩:=h v es hv
 exact ⟨x,v1,es1,by rw [show (s >>= g)=s.bind g from rfl,runT_bind,h1],h2⟩
theorem Dies.after {α β:Type} {s:Sem α} {g:α→Sem β} (hs:Calm P K s) (h:∀ a,Dies P K (g a)):Dies P K (s >>= g):=fun v es hv=>by
 have hc:=hs v es hv
 rw [show (s >>= g)=s.bind g from rfl,runT_bind]
 generalize hr:Sem.runT P s v es=r at hc
 obtain ⟨r,es2⟩:=r
 cases r with
 | ok a w=>exact h a w es2 hc
 | halt x w=>exact ⟨x,w,es2,rfl,hc⟩
theorem Calm.bind {α β:Type} {s:Sem α} {g:α→Sem β} (hs:Calm P K s) (h:∀ a,Calm P K (g a)):Calm P K (s >>= g):=fun v es hv=>by
 have hc:=hs v es hv
 rw [show (s >>= g)=s.bind g from rfl,runT_bind]
 generalize hr:Sem.runT P s v es=r at hc
 obtain ⟨r,es2⟩:=r
 cases r with
 | ok a w=>exact h a w es2 hc
 | halt x w=>exact hc
theorem dZ {α:Type} (a:α):Calm P K (pure a):=fun _ _ hv=>hv
theorem IK {α:Type} {h:Halt} (hn:kJ h):Calm P K (.halt h:Sem α):=fun _ _ hv=>⟨hn,hv⟩
theorem ng {α:Type} (m:String):Calm P K (stuck m:Sem α):=IK (oM m)
theorem oV:Calm P K program:=fun _ _ hv=>hv
theorem xq (q:Question):Calm P K (choose q):=fun v es hv=>by
 rw [show Sem.runT P (choose q) v es=if q.forced then (.ok 0 v,es) else (.ok (q.cut (v.tape v.drawn q)) { v with drawn:=v.drawn+1 },es) from rfl]
 cases q.forced<;>exact hv
theorem MN {o:Obj} (hp:plain o=true) (hk:ji K o):Calm P K (newObj o):=fun v es hv=>by
 show NV K { v with heap:=v.heap.push o }
 intro b o2 hb
 simp only [Array.getElem?_push] at hb
 split at hb
 ·obtain rfl:=Option.some.inj hb;exact ⟨.inr hp,hk⟩
 ·exact hv b o2 hb
theorem Dj (t:TypeId) (x:Value):Calm P K (newVar t x):=Calm.bind (MN rfl trivial) fun _=>dZ _
theorem vM (t:TypeId):Calm P K (underlying t):=Calm.bind oV fun p=>by split<;>first | exact dZ _ | exact ng _
theorem Hu (t:TypeId):Calm P K (typeInfo t):=Calm.bind oV fun p=>by split<;>first | exact dZ _ | exact ng _
theorem Dk (t:TypeId):Calm P K (elemOf t):=Calm.bind (vM t) fun p=>by split<;>first | exact dZ _ | exact ng _
theorem AP {α:Type} (v:Value):Dies P K (goPanic v:Sem α):=.halt _ (oO v)
theorem cu {α:Type} (m:String):Dies P K (stuck m:Sem α):=.halt _ (oM m)
theorem bf {α:Type} (u:Unsupported) (hn:kJ (.unsupported u):=by exact ⟨(by intro _ h;cases h),rfl⟩):Dies P K (unsupported u:Sem α):=.halt _ hn
theorem aP {α:Type} (e:RuntimeError):Dies P K (runtimePanic e:Sem α):=by
 unfold runtimePanic
 refine .after oV fun p=>?_
 cases e with
 | typeAssertion i c a m=>exact .after (Dk _) fun _=>.after (Dj _ _) fun _=>.halt _ (oO _)
 | panicNil=>exact .after (Dk _) fun _=>.after (Dj _ _) fun _=>.halt _ (oO _)
 | _=>exact .halt _ (oO _)
theorem S9 {α:Type} {s:Sem α} (h:Dies P K s):Calm P K s:=fun v es hv=>by
 obtain ⟨x,v1,es1,h1,h2⟩:=h v es hv
 rw [h1];exact h2
theorem uh {α:Type} (k:IntKind) (x y:Int) (c:BoundsCode):Dies P K (boundsPanic k x y c:Sem α):=by
 unfold boundsPanic
 dsimp only
 split
 ·exact .after (Calm.bind (xq _) fun _=>dZ _) fun _=>aP _
 ·exact .after (dZ _) fun _=>aP _
theorem JU (v:Value):Calm P K (asIntOf v):=by
 cases v with
 | int k n=>exact dZ _
 | pointer a=>cases a<;>first | exact ng _ | exact IK ⟨(by intro _ h;cases h),rfl⟩
 | _=>exact ng _
theorem iw {α β:Type} {Q:α→β→Prop} {g:Program→Sem α} {g':Program→Sem β} (h:ak P f K Q (g P) (g' P)):ak P f K Q (program >>= g) (program >>= g'):=.program h
theorem lD (q:Question):ak P f K (fun a b:Nat=>a=b) (choose q) (choose q):=.choose fun _=>.pure rfl
theorem Ue:ak P f K (fun _ _:Unit=>True) (Go.mark .noRoom) (Go.mark .noRoom):=.mark (.pure trivial)
theorem Uh (a:Addr) (m:Mode):ak P f K (fun x y=>y=val f x) (load a m) (load (addr f a) m):=.load fun _=>.pure rfl
theorem Xi (a:Addr) (x:Value) (m:Mode):ak P f K (fun _ _:Unit=>True) (store a x m) (store (addr f a) (val f x) m):=.store (.pure trivial)
theorem pY {o o':Obj} (hp:plain o=true) (hk:ji K o) (ho:o'=obj f o):ak P f K (fun a b=>b=f a) (newObj o) (newObj o'):=.new hp hk ho fun _=>.pure rfl
def Seen (f:Nat→Nat) (K:Kd) (a b:Obj):Prop:=(plain a=true∧ji K a∧b=obj f a)∨vP a b
theorem qf (r:Nat):ak P f K (Seen f K) (getObj r) (getObj (f r)):=.getObj (fun _ h hg=>.pure (.inl ⟨h,hg,rfl⟩)) (fun _ _ h=>.pure (.inr h))
theorem zU (r:Nat):ak P f K SR (shape r) (shape (f r)):=.shape fun _ _ h=>.pure h
theorem jr {r:Nat} {o o':Obj} (hp:plain o=true) (hk:ji K o) (hc:∀ c e fr,o ≠ .cells c e fr) (ho:o'=obj f o):ak P f K (fun _ _:Unit=>True) (setObj r o) (setObj (f r) o'):=.setObj hp hk hc ho (.pure trivial)
theorem gQ (t:TypeId):ak P f K (fun a b=>b=a∧P.info? t=some a) (typeInfo t) (typeInfo t):=by
 unfold typeInfo
 refine iw ?_
 cases h:P.info? t with
 | none=>exact ah
 | some i=>exact af ⟨rfl,rfl⟩
theorem aB (t:TypeId):ak P f K (fun a b=>b=a∧P.underlying t=some a) (underlying t) (underlying t):=by
 unfold underlying
 refine iw ?_
 cases h:P.underlying t with
 | none=>exact ah
 | some i=>exact af ⟨rfl,rfl⟩
theorem iJ (hz:aN P) (t:TypeId):ak P f K (fun a b=>b=a∧aQ a=true) (zeroValue t) (zeroValue t):=by
 unfold zeroValue
 refine ae (gQ t) ?_
 rintro _ i ⟨rfl,hi⟩
 cases h:i.zero with
 | none=>exact az
 | some z=>exact af ⟨rfl,hz t i z hi h⟩
theorem eP (t:TypeId):ak P f K (fun a b=>b=a∧∃ i,P.info? t=some i∧i.size=a) (Go.sizeOf t) (Go.sizeOf t):=by
 unfold Go.sizeOf
 refine ae (gQ t) ?_
 rintro _ i ⟨rfl,hi⟩
 exact af ⟨rfl,_,hi,rfl⟩
theorem PZ (t:TypeId):ak P f K (fun a b=>b=a) (isAgg t) (isAgg t):=by
 unfold isAgg
 refine ae (aB t) ?_
 rintro _ d ⟨rfl,_⟩
 cases d<;>exact af rfl
theorem xN (v:Value):ak P f K (fun a b=>b=a∧v = .int a.1 a.2) (asIntOf v) (asIntOf (val f v)):=by
 cases v with
 | int k n=>simp only [bV];exact af ⟨rfl,rfl⟩
 | pointer a=>cases a<;>first | exact ah | exact az
 | _=>exact ah
theorem zY (v:Value):ak P f K (fun a b=>b=a) (asInt v) (asInt (val f v)):=by
 unfold asInt
 refine ae (xN v) ?_
 rintro _ a ⟨rfl,_⟩
 exact af rfl
theorem EK (v:Value):ak P f K (fun a b=>b=a) (asBool v) (asBool (val f v)):=by
 cases v with
 | bool b=>simp only [dI];exact af rfl
 | _=>exact ah
theorem Xq (v:Value):ak P f K (fun a b=>b=vals f a) (asAgg v) (asAgg (val f v)):=by
 cases v with
 | agg cs=>simp only [cO];exact af rfl
 | _=>exact ah
theorem zZ (v:Value):ak P f K (fun a b=>b=addr f a) (asAddr v) (asAddr (val f v)):=by
 cases v with
 | pointer a=>
  cases a with
  | none=>exact Dies.rel (s:=asAddr (.pointer none)) (aP .nilDeref)
  | some a=>simp only [ay,Option.map_some];exact af rfl
 | _=>exact ah
theorem pW (v:Value):ak P f K (fun a b=>b=addr f a) (Instr.sureAddr v) (Instr.sureAddr (val f v)):=by
 cases v with
 | pointer a=>
  cases a with
  | none=>exact ah
  | some a=>simp only [ay,Option.map_some];exact af rfl
 | _=>exact ah
theorem addr_add (f:Nat→Nat) (a:Addr) (n:Nat):addr f (a.add n)=(addr f a).add n:=by
 unfold Addr.add addr
 split<;>rfl
theorem vH (a:Addr):∀ (n i:Nat) (acc:Array Value),ak P f K (fun x y=>y=vals f x) (loadCellsFrom a i n acc) (loadCellsFrom (addr f a) i n (vals f acc))
 | 0,i,acc=>af rfl
 | n+1,i,acc=>by
  unfold loadCellsFrom
  refine ae (by rw [←addr_add];exact Uh _ _) ?_
  rintro x _ rfl
  rw [show (vals f acc).push (val f x)=vals f (acc.push x) by simp [vals]]
  exact vH a n (i+1) _
theorem CJ (a:Addr) (n:Nat):ak P f K (fun x y=>y=vals f x) (loadCells a n) (loadCells (addr f a) n):=by
 have:=vH (P:=P) (f:=f) (K:=K) a n 0 #[]
 simpa [loadCells,vals] using this
theorem oG (a:Addr):∀ (vs:List Value) (i:Nat),ak P f K (fun _ _:Unit=>True) (storeCells a vs i) (storeCells (addr f a) (vs.map (val f)) i)
 | [],i=>af trivial
 | x::rest,i=>by
  unfold storeCells
  refine ae (by rw [←addr_add];exact Xi _ _ _) ?_
  rintro _ _ _
  exact oG a rest (i+1)
theorem xK (t:TypeId) (a:Addr):ak P f K (fun x y=>y=val f x) (loadVar t a) (loadVar t (addr f a)):=by
 unfold loadVar
 refine ae (PZ t) ?_
 rintro _ b rfl
 cases b with
 | true=>
  refine ae (eP t) ?_
  rintro _ n ⟨rfl,_⟩
  refine ae (CJ a _) ?_
  rintro cs _ rfl
  exact af (by simp)
 | false=>exact Uh _ _
theorem Gn (f:Nat→Nat) (v:Value):(val f v).cells.size=v.cells.size:=by rw [uk];simp
theorem NT (t:TypeId) (a:Addr) (x:Value):ak P f K (fun _ _:Unit=>True) (storeVar t a x) (storeVar t (addr f a) (val f x)):=by
 unfold storeVar
 refine ae (eP t) ?_
 rintro _ n ⟨rfl,_⟩
 rw [Gn,uk]
 by_cases h:x.cells.size=n
 ·have:=oG (P:=P) (f:=f) (K:=K) a x.cells.toList 0
  simpa [vals,h] using this
 ·simp only [ne_eq,h,not_false_eq_true,if_true]
  exact Dies.rel ((cu _).bind _)
theorem sK (t:TypeId) (cs:Array Value):ak P f K (fun a b=>b=addr f a) (newRow t cs) (newRow t (vals f cs)):=by
 unfold newRow
 refine ae (pY rfl trivial rfl) ?_
 rintro r _ rfl
 exact af rfl
theorem KT (t:TypeId) (x:Value):ak P f K (fun a b=>b=addr f a) (newVar t x) (newVar t (val f x)):=by
 unfold newVar
 rw [uk]
 exact sK t _
theorem lC (t:TypeId) (cs:Array Value) (off:Nat):ak P f K (fun x y=>y=val f x) (part t cs off) (part t (vals f cs) off):=by
 unfold part
 refine ae (PZ t) ?_
 rintro _ b rfl
 cases b with
 | true=>
  refine ae (eP t) ?_
  rintro _ n ⟨rfl,_⟩
  exact af (by simp [vals,Array.map_extract])
 | false=>
  simp only [fU]
  cases cs[off]? with
  | none=>exact ah
  | some x=>exact af rfl
theorem KR (r:Nat):ak P f K (fun a b=>a=none∧b=none) (viewAt r) (viewAt (f r)):=by
 unfold viewAt
 refine ae (zU r) ?_
 intro a b h
 rw [←h.isSome]
 cases a with
 | some x=>exact af ⟨rfl,rfl⟩
 | none=>
  refine ae (qf r) ?_
  rintro o o' (⟨h1,_,rfl⟩ | h)
  ·cases o<;>first | exact af ⟨rfl,rfl⟩ | exact absurd h1 (by simp [plain])
  ·rcases h with ⟨h1,h2⟩ | ⟨⟨x,rfl⟩,h2⟩
   ·cases o<;>first | (cases h1;done) | skip
    cases o'<;>first | (cases h2;done) | exact af ⟨rfl,rfl⟩
   ·cases o'<;>first | (cases h2;done) | exact af ⟨rfl,rfl⟩
theorem ED (r:Nat):ak P f K (fun a b=>b=a.map fun x=>(addr f x.1,x.2)) (numberAt r) (numberAt (f r)):=by
 unfold numberAt
 refine ae (zU r) ?_
 intro a b h
 rw [←h.isSome]
 cases a with
 | some x=>exact af rfl
 | none=>
  refine ae (qf r) ?_
  rintro o o' (⟨h1,_,rfl⟩ | h)
  ·cases o<;>first | exact af rfl | exact absurd h1 (by simp [plain])
  ·rcases h with ⟨h1,h2⟩ | ⟨⟨x,rfl⟩,h2⟩
   ·cases o<;>first | (cases h1;done) | skip
    cases o'<;>first | (cases h2;done) | exact af rfl
   ·cases o'<;>first | (cases h2;done) | exact af rfl
theorem iy (a:Addr):ak P f K (fun x y=>y=(addr f x.1,x.2)) (behindNumber a) (behindNumber (addr f a)):=by
 unfold behindNumber
 refine ae (ED a.block) ?_
 rintro x _ rfl
 cases x<;>exact af rfl
theorem N8 (a:Addr) (l:Bool):ak P f K (fun x y=>y=val f x) (asNumber a l) (asNumber (addr f a) l):=by
 unfold asNumber
 refine ae (pY rfl trivial rfl) ?_
 rintro r _ rfl
 exact af (by simp [addr])
theorem Ud (a:Addr):ak P f K (fun _ _:Unit=>True) (noView a) (noView (addr f a)):=by
 unfold noView
 refine ae (KR a.block) ?_
 rintro _ _ ⟨rfl,rfl⟩
 exact af trivial
theorem qg (a:Addr):ak P f K (fun x y=>y=x) (byteOf a) (byteOf (addr f a)):=by
 unfold byteOf
 show ak P f K _ _ (match a.spot with | _=>_)
 cases hs:a.spot with
 | some s=>simp only [addr,hs];exact af rfl
 | none=>
  simp only [addr,hs]
  refine iw ?_
  refine ae (Ud a) ?_
  rintro _ _ _
  refine ae (zU a.block) ?_
  intro x y h
  cases x with
  | none=>exact ah
  | some x=>
   cases y with
   | none=>cases h.isSome
   | some y=>
    obtain ⟨e,n⟩:=x
    obtain ⟨e',n'⟩:=y
    obtain rfl:e=e':=by
     rcases h with h | ⟨_,_,h1,h2⟩
     ·cases h;rfl
     ·cases h1;cases h2;rfl
    dsimp only
    split
    ·exact af rfl
    ·cases byteOfCell P P.depth e (a.off % P.cellsOf e) with
     | none=>exact ah
     | some b=>exact af rfl
end Ren
end Go
end
end
section
section
namespace Go
namespace Ren
variable [Fr]
variable {P:Program} {f:Nat→Nat} {K:Kd}
def Fix (P:Program) (f:Nat→Nat):Prop:=∀ g,g<P.globals.size→f g=g
theorem Fix.lt {G:Nat} (hf:rU f) (h:∀ g,g<G→f g=g) (b:Nat):(f b<G)↔b<G:=by
 constructor
 ·intro h1
  have h2:=h (f b) h1
  have h3:=hf _ _ h2
  omega
 ·intro h1;rw [h b h1];exact h1
abbrev aj (f:Nat→Nat):Value→Value→Prop:=fun x y=>y=val f x
theorem bz {α β:Type} {Q:α→β→Prop} {c:Prop} [Decidable c] {a b:Sem α} {a' b':Sem β} (h:c→ak P f K Q a a') (h':¬ c→ak P f K Q b b'):ak P f K Q (if c then a else b) (if c then a' else b'):=by
 by_cases hc:c
 ·rw [if_pos hc,if_pos hc];exact h hc
 ·rw [if_neg hc,if_neg hc];exact h' hc
theorem Uc (a:Addr) (c b:Nat):ak P f K (fun x y=>y=addr f x) (partAt a c b) (partAt (addr f a) c b):=by
 unfold partAt
 refine ae (qg a) ?_
 rintro n _ rfl
 refine ae (qg (P:=P) (f:=f) (K:=K) { block:=a.block,off:=a.off+c }) ?_
 rintro m _ rfl
 refine af ?_
 dsimp only
 split<;>rfl
theorem uI (a:Addr) (g:Field):ak P f K (fun x y=>y=addr f x) (fieldPlace a g) (fieldPlace (addr f a) g):=by
 unfold fieldPlace
 refine ae (eP _) ?_
 rintro _ n ⟨rfl,_⟩
 split
 ·exact Uc a _ _
 ·exact af (addr_add f a _).symm
theorem jZ {α β:Type} {Q:α→β→Prop} (k:IntKind) (x y:Int) (c:BoundsCode) {s:Sem β}:ak P f K Q (boundsPanic k x y c) s:=(uh k x y c).rel
theorem dK {α β:Type} {Q:α→β→Prop} (e:RuntimeError) {s:Sem β}:ak P f K Q (runtimePanic e) s:=(aP e).rel
theorem Xr (hz:aN P) (t:TypeId) (o:Value):ak P f K (aj f) (Instr.alloc t true o) (Instr.alloc t true o):=by
 unfold Instr.alloc
 refine ae (iJ hz t) ?_
 rintro _ z ⟨rfl,hc⟩
 refine ae (by have:=KT (P:=P) (f:=f) (K:=K) t z;rwa [aH hc f] at this) ?_
 rintro a _ rfl
 exact af (by simp [aj])
theorem r_box (t:TypeId) (x:Value):ak P f K (aj f) (Instr.box t x) (Instr.box t (val f x)):=by
 unfold Instr.box
 refine ae (KT t x) ?_
 rintro a _ rfl
 exact af (by simp [aj])
theorem Ug (t:TypeId) (x:Value):ak P f K (aj f) (Instr.loadAt t x) (Instr.loadAt t (val f x)):=by
 unfold Instr.loadAt
 refine ae (pW x) ?_
 rintro a _ rfl
 exact xK t a
theorem Q4 (t:TypeId) (x y:Value):ak P f K (fun _ _:Unit=>True) (Instr.storeAt t x y) (Instr.storeAt t (val f x) (val f y)):=by
 unfold Instr.storeAt
 refine ae (pW x) ?_
 rintro a _ rfl
 exact NT t a y
theorem Q9 (t:TypeId) (x:Value) (n:Nat):ak P f K (aj f) (Instr.fieldAt t x n) (Instr.fieldAt t (val f x) n):=by
 unfold Instr.fieldAt
 refine ae (aB t) ?_
 rintro _ d ⟨rfl,_⟩
 cases d with
 | struct fields=>
  dsimp only
  cases fields[n]? with
  | none=>exact ah
  | some g=>
   refine ae (pW x) ?_
   rintro a _ rfl
   refine ae (uI a g) ?_
   rintro b _ rfl
   exact af (by simp [aj])
 | _=>exact ah
theorem Xm (t:TypeId) (x:Value) (n:Nat):ak P f K (aj f) (Instr.field t x n) (Instr.field t (val f x) n):=by
 unfold Instr.field
 refine ae (aB t) ?_
 rintro _ d ⟨rfl,_⟩
 cases d with
 | struct fields=>
  dsimp only
  cases fields[n]? with
  | none=>exact ah
  | some g=>
   refine ae (Xq x) ?_
   rintro cs _ rfl
   exact lC _ _ _
 | _=>exact ah
theorem Rf (x:Value) (n:Nat):ak P f K (aj f) (Instr.extract x n) (Instr.extract (val f x) n):=by
 unfold Instr.extract
 cases x with
 | tuple vs=>
  simp only [bY,fU]
  cases vs[n]? with
  | none=>exact ah
  | some v=>exact af rfl
 | _=>exact ah
theorem Xl (t:TypeId) (x i:Value):ak P f K (aj f) (Instr.index t x i) (Instr.index t (val f x) (val f i)):=by
 unfold Instr.index
 refine ae (xN i) ?_
 rintro _ ⟨k,n⟩ ⟨rfl,_⟩
 refine ae (aB t) ?_
 rintro _ d ⟨rfl,_⟩
 split
 ·rename_i elem cs _
  simp only [cO]
  refine bz (fun _=>?_) (fun _=>jZ _ _ _ _)
  refine ae (eP _) ?_
  rintro _ m ⟨rfl,_⟩
  exact lC _ _ _
 ·rename_i s
  simp only [aS]
  split
  ·exact af (by simp [aj])
  ·exact jZ _ _ _ _
 ·exact ah
theorem Q8 (t:TypeId) (x i:Value):ak P f K (aj f) (Instr.indexAt t x i) (Instr.indexAt t (val f x) (val f i)):=by
 unfold Instr.indexAt
 refine ae (xN i) ?_
 rintro _ ⟨k,n⟩ ⟨rfl,_⟩
 refine ae (aB t) ?_
 rintro _ d ⟨rfl,_⟩
 have tail:∀ (base:Option Addr) (len:Nat) (elem:TypeId),ak P f K (aj f)
   (underlying t >>= fun d=>match base with
    | some a=>if 0≤n∧n<(len:Int) then Go.sizeOf elem >>= fun s=>pure (Value.pointer (some (a.add (n.toNat*s)))) else
      if (decide (len≤1)&&match d with | .array ..=>true | _=>false)=true then unsupported (.noEntry "op/indexAddr.an index out of range at an array of length 0 or 1 (ledger 616)") else boundsPanic k n (len:Int) .index
    | none=>boundsPanic k n 0 .index)
   (underlying t >>= fun d=>match base.map (addr f) with
    | some a=>if 0≤n∧n<(len:Int) then Go.sizeOf elem >>= fun s=>pure (Value.pointer (some (a.add (n.toNat*s)))) else
      if (decide (len≤1)&&match d with | .array ..=>true | _=>false)=true then unsupported (.noEntry "op/indexAddr.an index out of range at an array of length 0 or 1 (ledger 616)") else boundsPanic k n (len:Int) .index
    | none=>boundsPanic k n 0 .index):=fun base len elem=>by
  refine ae (aB t) ?_
  rintro _ d' ⟨rfl,_⟩
  cases base with
  | none=>exact jZ _ _ _ _
  | some a=>
   simp only [Option.map_some]
   refine bz (fun _=>?_) (fun _=>bz (fun _=>az) (fun _=>jZ _ _ _ _))
   refine ae (eP _) ?_
   rintro _ m ⟨rfl,_⟩
   exact af (by simp [aj,addr_add])
 split
 ·refine ae (pW x) ?_
  rintro a _ rfl
  exact tail (some a) _ _
 ·simp only [aW]
  exact tail _ _ _
 ·exact Dies.rel ((cu _).bind _)
theorem Dv (t:TypeId) (x:Value):ak P f K (aj f) (Instr.makeInterface t x) (Instr.makeInterface t (val f x)):=by
 unfold Instr.makeInterface
 refine ae (aB t) ?_
 rintro _ d ⟨rfl,_⟩
 cases d<;>first | exact ah | exact af (by simp [aj])
theorem NY (g:Fn) (a b:Array Value):ak P f K (aj f) (Instr.makeFunc g a b) (Instr.makeFunc (fn f g) (vals f a) (vals f b)):=af (by simp [aj])
theorem Dz (x:Value) (y:Nat) (c:BoundsCode):Calm P K (Instr.sliceBound x y c):=by
 unfold Instr.sliceBound
 refine Calm.bind (JU x) fun a=>?_
 obtain ⟨k,n⟩:=a
 dsimp only
 split
 ·exact dZ _
 ·exact S9 (uh _ _ _ _)
theorem uH (x:Value) (y:Nat) (c:BoundsCode):ak P f K (fun a b=>b=a) (Instr.sliceBound x y c) (Instr.sliceBound (val f x) y c):=by
 unfold Instr.sliceBound
 refine ae (xN x) ?_
 rintro _ ⟨k,n⟩ ⟨rfl,_⟩
 dsimp only
 split
 ·exact af rfl
 ·exact jZ _ _ _ _
theorem nD (b:Bool) (len cap:Nat) (lo hi mx:Option Value):ak P f K (fun a b=>b=a) (Instr.sliceBounds b len cap lo hi mx) (Instr.sliceBounds b len cap (lo.map (val f)) (hi.map (val f)) (mx.map (val f))):=by
 unfold Instr.sliceBounds
 cases lo<;>cases hi<;>cases mx<;>dsimp only [Option.map] <;>
  first
   | exact Dies.rel (.after (Dz _ _ _) fun _=>.bind (cu _) _)
   | exact Dies.rel (.after (dZ _) fun _=>.bind (cu _) _)
   | (refine ae (Q:=fun a b=>b=a) (by first | exact af rfl | exact uH _ _ _) ?_
      rintro m _ rfl
      refine ae (Q:=fun a b=>b=a) (by first | exact af rfl | exact uH _ _ _) ?_
      rintro h _ rfl
      refine ae (Q:=fun a b=>b=a) (by first | exact af rfl | exact uH _ _ _) ?_
      rintro l _ rfl
      exact af rfl)
theorem Xj (t:TypeId) (x:Value) (lo hi mx:Option Value):ak P f K (aj f) (Instr.slice t x lo hi mx) (Instr.slice t (val f x) (lo.map (val f)) (hi.map (val f)) (mx.map (val f))):=by
 unfold Instr.slice
 refine ae (aB t) ?_
 rintro _ d ⟨rfl,_⟩
 split
 ·simp only [aS,Option.isSome_map]
  refine bz (fun _=>Dies.rel ((cu _).bind _)) (fun _=>?_)
  refine ae (by simpa using nD _ _ _ lo hi none) ?_
  rintro ⟨l,h,m⟩ _ rfl
  exact af (by simp [aj])
 ·simp only [aW]
  refine ae (nD _ _ _ lo hi mx) ?_
  rintro ⟨l,h,m⟩ _ rfl
  refine ae (eP _) ?_
  rintro _ s ⟨rfl,_⟩
  refine af ?_
  dsimp only [aj]
  rw [aW]
  split
  ·rfl
  ·simp [Function.comp_def,addr_add]
 ·refine ae (zZ x) ?_
  rintro a _ rfl
  refine ae (aB _) ?_
  rintro _ d' ⟨rfl,_⟩
  cases d' with
  | array n elem=>
   refine ae (nD _ _ _ lo hi mx) ?_
   rintro ⟨l,h,m⟩ _ rfl
   refine ae (eP _) ?_
   rintro _ s ⟨rfl,_⟩
   refine af ?_
   dsimp only [aj]
   rw [aW]
   split<;>simp [addr_add]
  | _=>exact ah
 ·exact ah
theorem Q5 (t:TypeId) (x:Value) (lo hi mx:Option Value):ak P f K (aj f) (Instr.sliceAt t x lo hi mx) (Instr.sliceAt t (val f x) (lo.map (val f)) (hi.map (val f)) (mx.map (val f))):=by
 unfold Instr.sliceAt
 refine ae (aB t) ?_
 rintro _ d ⟨rfl,_⟩
 cases d with
 | array n elem=>
  refine ae (pW x) ?_
  rintro a _ rfl
  refine ae (nD _ _ _ lo hi mx) ?_
  rintro ⟨l,h,m⟩ _ rfl
  refine ae (eP _) ?_
  rintro _ s ⟨rfl,_⟩
  refine af ?_
  dsimp only [aj]
  rw [aW]
  split<;>simp [addr_add]
 | _=>exact Xj _ _ _ _ _
theorem DZ {z:Value} (hc:aQ z=true) (f:Nat→Nat):vals f z.cells=z.cells:=by
 rw [←uk,aH hc f]
theorem vX (f:Nat→Nat) {z:Value} (hc:aQ z=true) (n:Nat):vals f ((Array.range n).map (z.cells[· % z.cells.size]!))=(Array.range n).map (z.cells[· % z.cells.size]!):=by
 have h:=DZ hc f
 unfold vals
 rw [Array.map_map]
 refine Array.map_congr_left fun i _=>?_
 have h2:∀ j:Nat,(z.cells[j]?).map (val f)=z.cells[j]?:=fun j=>by rw [←fU,h]
 simp only [Function.comp]
 have:=h2 (i % z.cells.size)
 rw [getElem!_def]
 cases hx:z.cells[i % z.cells.size]? with
 | none=>exact dI f _
 | some x=>rw [hx] at this;simpa using this
theorem La (hz:aN P) (t:TypeId) (l c:Value):ak P f K (aj f) (Instr.makeSlice t l c) (Instr.makeSlice t (val f l) (val f c)):=by
 unfold Instr.makeSlice
 refine ae (aB t) ?_
 rintro _ d ⟨rfl,_⟩
 cases d with
 | slice elem=>
  refine ae (zY l) ?_
  rintro _ len rfl
  refine ae (zY c) ?_
  rintro _ cap rfl
  refine ae (gQ elem) ?_
  rintro _ i ⟨rfl,_⟩
  dsimp only
  refine bz (fun _=>?_) (fun _=>?_)
  ·refine Dies.rel ?_
   split
   ·exact .bind (aP _) _
   ·split
    ·exact .bind (aP _) _
    ·exact .after (xq _) fun _=>.bind (aP _) _
  ·refine ae (Q:=fun _ _=>True) ?_ ?_
   ·unfold askRoom
    exact bz (fun _=>Ue) (fun _=>af trivial)
   rintro _ _ _
   refine ae (eP _) ?_
   rintro _ s ⟨rfl,_⟩
   refine bz (fun h0=>?_) (fun _=>?_)
   ·rw [h0]
    refine ae (af (Q:=fun a b=>b=a∧a=#[]) ⟨rfl,rfl⟩) ?_
    rintro _ z ⟨rfl,rfl⟩
    rw [show Array.range 0=#[] from rfl,Array.map_empty]
    refine ae (by have:=sK (P:=P) (f:=f) (K:=K) elem #[];simpa [vals] using this) ?_
    rintro a _ rfl
    exact af (by simp [aj])
   ·refine ae (iJ hz elem) ?_
    rintro _ z ⟨rfl,hc⟩
    refine ae (af (Q:=fun a b=>b=a∧a=z.cells) ⟨rfl,rfl⟩) ?_
    rintro _ z2 ⟨rfl,rfl⟩
    refine ae (by have:=sK (P:=P) (f:=f) (K:=K) elem ((Array.range ((IntKind.i64.wrap cap).toNat*s)).map (z.cells[· % z.cells.size]!));rwa [vX f hc] at this) ?_
    rintro a _ rfl
    exact af (by simp [aj])
 | _=>exact ah
end Ren
end Go
end
end
