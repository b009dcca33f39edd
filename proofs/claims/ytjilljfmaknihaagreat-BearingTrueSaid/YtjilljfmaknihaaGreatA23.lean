import Derived.Test.YtjilljfmaknihaaGreatA20
set_option linter.all false
namespace Go
section
variable{P:aH}{F:Fence}{n:Nat}{a:Act}{w:ay}{Q:Exit->Act->ay->Prop}
theorem nM{b:aC}{k:List ig}{cs:List aC}{c:Code}:step P (lone (b.atR a (.code (.scope c)::k)) cs w)=.next (lone (b.atR a (.code c::.inScope c::k)) cs w):=J6 (by simp[stepG,stepG.exec,Frame.atR])
theorem MW{b:aC}{k:List ig}{cs:List aC}{c:Code}:step P (lone (b.atR a (.inScope c::k)) cs w)=.next (lone (b.atR a k) cs w):=J6 (by simp[stepG,stepG.exec,Frame.atR])
theorem EE{c}(h:c.wpIn F n P (Exit.noGoto Q) a w):(Code.scope c).wpIn F n P Q a w:=by
 intro b k cs hro hb hr;have h0:(lone (b.atR a (.code (.scope c)::k)) cs w).fenced P F:=fenced_calm hb hr rfl;have⟨e,a₁,w₁,hq,harr⟩:=h b (.inScope c::k) cs hro hb hr;cases e with
 |normal=>exact⟨.normal,a₁,w₁,hq,.head h0 nM (StepsIn.trans harr (.one (fenced_calm hb hr rfl) MW))⟩
 |exit id=>
 have hx:exitTo id (.inScope c::k)=exitTo id k:=by simp[exitTo]
 exact⟨.exit id,a₁,w₁,hq,fun k' hk=>.head h0 nM (harr.1 k' (by rw[hx];exact hk)),fun hr' hk=>let ⟨k₁,h1,h2⟩:=harr.2 hr' (by rw[hx];exact hk);⟨k₁,h1,.head h0 nM h2⟩⟩
 |goto l=>exact hq.elim
 |ret=>exact⟨_,a₁,w₁,hq,.of_steps (.one h0 nM) harr⟩
 |panic ch=>exact⟨_,a₁,w₁,hq,.of_steps (.one h0 nM) harr⟩
 |outgrown=>exact⟨_,a₁,w₁,hq,.of_steps (.one h0 nM) harr⟩
end
end Go
