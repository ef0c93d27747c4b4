/- Lemmas. -/
import Derived.Test.YtgnfdonbholcdaaGreatDoorRows
import Derived.Test.YtgnfdonbholcdaaGreatDoorQz01
namespace Go.Proofs.YtgnfdonbholcdaaGreatDoor
set_option linter.unusedVariables false
set_option maxRecDepth 100000
set_option maxHeartbeats 32000000
set_option linter.unusedSimpArgs false
open Go.RowKit
def pM:Nat:=28948022309329048855892746252171976963317496166410141009864396001978282409974
def pE:Nat:=7237005577332262213973186563042994240829374041602535252466099000494570602494
theorem pM_two:pN - 1=pM+pM:=by decide+kernel
theorem pE_four:pE+pE+(pE+pE)=pM+2:=by decide+kernel
def sm1:Int:=19681161376707505956807079304988542015446066515923890162744021073123829784752
theorem sm1_sq:Cong (sm1*sm1) (-1):=by
 have:pP∣sm1*sm1 - -1:=by decide+kernel
 exact this
theorem cong_zero {x:Int}:Cong x 0↔pP∣x:=by unfold Cong;rw[Int.sub_zero]
theorem p_one:¬pP∣(1:Int):=by decide+kernel
theorem p_two:¬pP∣(2:Int):=by decide+kernel
theorem cong_mul_zero {x y:Int}(h:Cong (x*y) 0):Cong x 0∨Cong y 0:=by
 rw[cong_zero]at h
 rcases p_domain h with h|h
 ·exact Or.inl (cong_zero.2 h)
 exact Or.inr (cong_zero.2 h)
theorem cong_sq {x y:Int}(h:Cong (x*x) (y*y)):Cong x y∨Cong x (-y):=by
 have:Cong ((x - y)*(x+y)) 0:=by
  obtain⟨q,a⟩:=h
  exact⟨q,by grind⟩
 rcases cong_mul_zero this with h|h
 ·left
  obtain⟨q,a⟩:=h
  exact⟨q,by grind⟩
 right
 obtain⟨q,a⟩:=h
 exact⟨q,by grind⟩
theorem half_of_square {x r:Int}(h:¬pP∣x)(a:Cong (r*r) x):Cong (x^pM) 1:=by
 have c:¬pP∣r:=fun b=>h (by
  obtain⟨q,d⟩:=b
  obtain⟨t,ht⟩:=a
  exact⟨q*r - t,by grind⟩)
 have h1:=a.symm.pow pM
 have h2:(r*r)^pM=r^(pN - 1):=by rw[pM_two,Int.pow_add,Int.mul_pow]
 rw[h2]at h1
 exact h1.trans (p_fermat c)
theorem eighth_power {x:Int}(h:Cong (x^pM) 1):Cong (x^pE*x^pE) x∨Cong (x^pE*sm1*(x^pE*sm1)) x:=by
 have e:x^pE*x^pE*(x^pE*x^pE)=x^pM*(x*x):=by
  rw[←Int.pow_add,←Int.pow_add,pE_four,Int.pow_add,q124,q124,Int.pow_zero,Int.one_mul]
 have h1:Cong (x^pE*x^pE*(x^pE*x^pE)) (x*x):=by
  rw[e]
  have:=h.mul (Cong.refl (x*x))
  rwa [Int.one_mul]at this
 rcases cong_sq h1 with h2|h2
 ·exact Or.inl h2
 right
 have a:=h2.mul sm1_sq
 have b:x^pE*sm1*(x^pE*sm1)=x^pE*x^pE*(sm1*sm1):=by grind
 rw[b]
 have c: -x* -1=x:=by omega
 rwa [c]at a
theorem root_found {x:Int}(h:¬pP∣x):(Cong (x^pE*x^pE) x∨Cong (x^pE*sm1*(x^pE*sm1)) x)↔Cong (x^pM) 1:=
 ⟨fun a=>by rcases a with a|a<;>exact half_of_square h a,eighth_power⟩
theorem inv_undo {x:Int}(h:¬pP∣x):Cong (x*x^(pN - 2)) 1:=by
 have e:x*x^(pN - 2)=x^(pN - 1):=by
  have:pN - 1=pN - 2+1:=by decide+kernel
  rw[this,q124,Int.mul_comm]
 rw[e]
 exact p_fermat h
instance:NeZero pN:=⟨by decide⟩
abbrev Fp:=Fin pN
theorem pP_pos:(0:Int)<pP:=by decide+kernel
theorem pN_cast:((pN:Nat):Int)=pP:=rfl
def fp(x:Int):Fp:=⟨(x%pP).toNat,by
 have h0:=Int.emod_nonneg x (show pP≠0 from Int.ne_of_gt pP_pos)
 have h1:=Int.emod_lt_of_pos x pP_pos
 rw[←pN_cast]at h1 h0⊢
 omega⟩
theorem fp_val(x:Int):(fp x).val=(x%pP).toNat:=rfl
theorem fp_int(x:Int):((fp x).val:Int)=x%pP:=by
 have h0:=Int.emod_nonneg x (show pP≠0 from Int.ne_of_gt pP_pos)
 rw[fp_val,Int.toNat_of_nonneg h0]
theorem fin_int {a b:Fp}(h:(a.val:Int)=b.val):a=b:=Fin.ext (Int.ofNat_inj.1 h)
theorem fp_eq {x y:Int}:fp x=fp y↔Cong x y:=by
 rw[cong_iff,←fp_int,←fp_int]
 exact⟨fun h=>by rw[h],fin_int⟩
theorem fp_self(a:Fp):fp a.val=a:=by
 apply fin_int
 rw[fp_int,←pN_cast,q159 (by omega) (by have:=a.isLt;omega)]
theorem fp_add(x y:Int):fp (x+y)=fp x+fp y:=by
 apply fin_int
 rw[Fin.val_add,fp_int,Int.natCast_emod,Int.natCast_add,fp_int,fp_int,pN_cast,←Int.add_emod]
theorem fp_mul(x y:Int):fp (x*y)=fp x*fp y:=by
 apply fin_int
 rw[Fin.val_mul,fp_int,Int.natCast_emod,Int.natCast_mul,fp_int,fp_int,pN_cast,←Int.mul_emod]
theorem fp_zero:fp 0=0:=by
 apply fin_int
 rw[fp_int]
 rfl
theorem fp_one:fp 1=1:=by
 apply fin_int
 rw[fp_int]
 decide+kernel
theorem fp_neg(x:Int):fp (-x)=-fp x:=by
 have h:fp (-x)+fp x=0:=by rw[←fp_add,Int.add_left_neg,fp_zero]
 grind
theorem fp_sub(x y:Int):fp (x - y)=fp x - fp y:=by
 rw[Int.sub_eq_add_neg,fp_add,fp_neg]
 grind
theorem fp_zero_iff {x:Int}:fp x=0↔pP∣x:=by
 rw[←fp_zero,fp_eq,cong_zero]
theorem f_dom {a b:Fp}(h:a*b=0):a=0∨b=0:=by
 rw[←fp_self a,←fp_self b,←fp_mul,fp_zero_iff]at h
 rcases p_domain h with h|h
 ·exact Or.inl (by rw[←fp_self a];exact fp_zero_iff.2 h)
 exact Or.inr (by rw[←fp_self b];exact fp_zero_iff.2 h)
theorem zbt {a b:Fp}(c:a≠0)(d:b≠0):a*b≠0:=fun h=>by
 rcases f_dom h with h|h
 ·exact c h
 exact d h
theorem zes {a b c:Fp}(d:c≠0)(h:a*c=b*c):a=b:=by
 have:(a - b)*c=0:=by grind
 rcases f_dom this with h|h
 ·grind
 exact absurd h d
def fi(a:Fp):Fp:=fp ((a.val:Int)^(pN - 2))
theorem fi_fp(x:Int):fi (fp x)=fp (x^(pN - 2)):=by
 unfold fi
 rw[fp_eq,fp_int]
 exact(cong_mod x).pow _
theorem f_inv {a:Fp}(h:a≠0):a*fi a=1:=by
 unfold fi
 have c:¬pP∣(a.val:Int):=fun b=>h (by rw[←fp_self a];exact fp_zero_iff.2 b)
 have:=fp_eq.2 (inv_undo c)
 rw[fp_mul,fp_self,fp_one]at this
 exact this
theorem fi_zero:fi 0=0:=by
 rw[←fp_zero,fi_fp]
 rw[Int.zero_pow (by decide+kernel)]
theorem f_one_ne:(1:Fp)≠0:=by
 rw[←fp_one]
 exact fun h=>p_one (fp_zero_iff.1 h)
theorem f_two_ne:(2:Fp)≠0:=by
 have e:(2:Fp)=fp 2:=by
  have h:fp 2=fp 1+fp 1:=fp_add 1 1
  rw[h,fp_one]
  decide+kernel
 rw[e]
 exact fun h=>p_two (fp_zero_iff.1 h)
def dN:Int:=37095705934669439343138083508754565189542113879843219016388785533085940283555
theorem dN_half:(pm pN 255 37095705934669439343138083508754565189542113879843219016388785533085940283555 pM)=pN - 1:=by decide+kernel
theorem dN_not:¬Cong (dN^pM) 1:=by
 intro h
 have e:=pm_eq (n:=pN) 255 37095705934669439343138083508754565189542113879843219016388785533085940283555 pM (by decide+kernel)
 rw[dN_half]at e
 rw[cong_iff,dN,pP_nat]at h
 have a:(((37095705934669439343138083508754565189542113879843219016388785533085940283555^pM%pN:Nat)):Int)=(1:Int)%(pN:Int):=by
  rw[Int.natCast_emod,Int.natCast_pow]
  exact h
 rw[←e]at a
 revert a
 decide+kernel
def dF:Fp:=fp dN
theorem dF_ne:dF≠0:=by
 intro h
 have:=fp_zero_iff.1 h
 revert this
 decide+kernel
theorem dF_eq:dF*121666=-121665:=by
 decide+kernel
theorem dF_nonsq(r:Fp):r*r≠dF:=by
 intro h
 rw[←fp_self r,←fp_mul,dF,fp_eq]at h
 refine dN_not (half_of_square (fun a=>dF_ne (fp_zero_iff.2 a)) h)
def iF:Fp:=fp sm1
theorem iF_sq:iF*iF=-1:=by
 rw[iF,←fp_mul,←fp_one,←fp_neg,fp_eq]
 exact sm1_sq
def On(x y:Fp):Prop:=y*y - x*x=1+dF*(x*x*(y*y))
theorem d_ratio {a b:Fp}(h:a*a=dF*(b*b)):b=0:=by
 apply Classical.byContradiction
 intro d
 have e:=f_inv d
 refine dF_nonsq (a*fi b) ?_
 generalize fi b=c at*
 grind
theorem on_ne {a b d c:Fp}(h1:On a b)(h2:On d c) {s:Fp}(h:s*s=1):dF*(a*d*(b*c))≠s:=by
 intro f
 have g:=iF_sq
 unfold On at h1 h2
 have m:s≠0:=fun e=>f_one_ne (by rw[←h,e];grind)
 have l:dF*(a*a*(b*b))*(c*c - d*d)=b*b - a*a:=by
  have t:dF*(a*a*(b*b))*(c*c - d*d)=dF*(a*a*(b*b))+(dF*(a*d*(b*c)))*(dF*(a*d*(b*c))):=by
   rw[h2]
   grind
  rw[t,f,h]
  grind
 have q:(iF*a+s*b)*(iF*a+s*b)=dF*((a*b*(c+iF*d))*(a*b*(c+iF*d))):=by
  have j:dF*((a*b*(c+iF*d))*(a*b*(c+iF*d)))=dF*(a*a*(b*b))*(c*c+iF*iF*(d*d))+2*iF*(a*b)*(dF*(a*d*(b*c))):=by grind
  rw[j,f,g]
  have i:c*c+ -1*(d*d)=c*c - d*d:=by grind
  rw[i,l]
  have k:(iF*a+s*b)*(iF*a+s*b)=iF*iF*(a*a)+s*s*(b*b)+2*iF*(a*b)*s:=by grind
  rw[k,g,h]
  grind
 have v:(-iF*a+s*b)*(-iF*a+s*b)=dF*((a*b*(c - iF*d))*(a*b*(c - iF*d))):=by
  have j:dF*((a*b*(c - iF*d))*(a*b*(c - iF*d)))=dF*(a*a*(b*b))*(c*c+iF*iF*(d*d)) - 2*iF*(a*b)*(dF*(a*d*(b*c))):=by grind
  rw[j,f,g]
  have i:c*c+ -1*(d*d)=c*c - d*d:=by grind
  rw[i,l]
  have k:(-iF*a+s*b)*(-iF*a+s*b)=iF*iF*(a*a)+s*s*(b*b) - 2*iF*(a*b)*s:=by grind
  rw[k,g,h]
  grind
 have z2:=d_ratio q
 have p:=d_ratio v
 have n:a*b≠0:=fun e=>m (by
  have:dF*(a*d*(b*c))=dF*(d*c)*(a*b):=by grind
  rw[←f,this,e]
  grind)
 have y:c+iF*d=0:=by
  rcases f_dom z2 with e|e
  ·exact absurd e n
  exact e
 have x:c - iF*d=0:=by
  rcases f_dom p with e|e
  ·exact absurd e n
  exact e
 have r:2*c=0:=by grind
 have u:c=0:=by
  rcases f_dom r with e|e
  ·exact absurd e f_two_ne
  exact e
 apply m
 rw[←f,u]
 grind
theorem on_plus {b d c a:Fp}(h1:On b d)(h2:On c a):1+dF*(b*c*(d*a))≠0:=fun h=>
 on_ne h1 h2 (s:=-1) (by grind) (by grind)
theorem on_minus {b d c a:Fp}(h1:On b d)(h2:On c a):1 - dF*(b*c*(d*a))≠0:=fun h=>
 on_ne h1 h2 (s:=1) (by grind) (by grind)
structure Pt where
 x:Fp
 y:Fp
 on:On x y
theorem Pt.ext' {P Q:Pt}(b:P.x=Q.x)(a:P.y=Q.y):P=Q:=by
 cases P;cases Q;cases b;cases a;rfl
theorem f_sub {a b:Fp}(h:a - b=0):a=b:=by
 have e:a=(a - b)+b:=by grind
 rw[e,h,Fin.zero_add]
theorem lin2 {L R c1 a c2 b:Fp}(h:L - R=c1*a+c2*b)(h1:a=0)(h2:b=0):L=R:=by
 apply f_sub
 rw[h,h1,h2,Fin.mul_zero,Fin.mul_zero,Fin.zero_add]
theorem lin3 {L R c1 a c2 b c3 c:Fp}(h:L - R=c1*a+c2*b+c3*c)(h1:a=0)(h2:b=0)(d:c=0):L=R:=by
 apply f_sub
 rw[h,h1,h2,d,Fin.mul_zero,Fin.mul_zero,Fin.mul_zero,Fin.zero_add,Fin.zero_add]
theorem lin {L R A B:Fp}(c:Fp)(e:A=B)(h:L - R=c*(A - B)):L=R:=by
 apply f_sub
 have z:B - B=0:=by grind
 rw[h,e,z,Fin.mul_zero]
theorem on_sum {e c b a g f d:Fp}(h1:c*c - e*e=1+d*(e*e*(c*c)))(h2:a*a - b*b=1+d*(b*b*(a*a)))
  (i:1+d*(e*b*(c*a))≠0) (h:1 - d*(e*b*(c*a))≠0)
  (j:g*(1+d*(e*b*(c*a)))=e*a+b*c) (k:f*(1 - d*(e*b*(c*a)))=c*a+e*b):f*f - g*g=1+d*(g*g*(f*f)):=by
 generalize p:1+d*(e*b*(c*a))=A at*
 generalize n:1 - d*(e*b*(c*a))=B at*
 refine zes (zbt (zbt i i) (zbt h h)) ?_
 have l:(f*f - g*g)*(A*A*(B*B))=(f*B)*(f*B)*(A*A) - (g*A)*(g*A)*(B*B):=by grind
 have r:(1+d*(g*g*(f*f)))*(A*A*(B*B))=A*A*(B*B)+d*((g*A)*(g*A)*((f*B)*(f*B))):=by grind
 rw[l,r,j,k]
 clear l r j k i h g f
 subst p n
 have q:c*c - e*e - 1 - d*(e*e*(c*c))=0:=by grind
 have m:a*a - b*b - 1 - d*(b*b*(a*a))=0:=by grind
 clear h1 h2
 have key:((c*a+e*b)*(c*a+e*b)*((1+d*(e*b*(c*a)))*(1+d*(e*b*(c*a)))) - (e*a+b*c)*(e*a+b*c)*((1 - d*(e*b*(c*a)))*(1 - d*(e*b*(c*a))))) - ((1+d*(e*b*(c*a)))*(1+d*(e*b*(c*a)))*((1 - d*(e*b*(c*a)))*(1 - d*(e*b*(c*a))))+d*((e*a+b*c)*(e*a+b*c)*((c*a+e*b)*(c*a+e*b))))
  =(e^2*c^2*b^4*a^4*d^3 - e^2*b^4*a^4*d^2 - e^2*b^4*a^2*d+e^2*b^2*a^4*d+c^2*b^4*a^4*d^2+c^2*b^4*a^2*d - c^2*b^2*a^4*d - b^4*a^4*d^2 - 2*b^4*a^4*d - 2*b^4*a^2+b^4+2*b^2*a^4 - 2*b^2*a^2*d - 4*b^2*a^2+a^4)*(c*c - e*e - 1 - d*(e*e*(c*c)))+(e^4*b^2*a^2*d+2*e^2*b^2*a^2*d+2*e^2*b^2*a^2 - e^2*b^2+e^2*a^2+c^4*b^2*a^2*d - 2*c^2*b^2*a^2*d - 2*c^2*b^2*a^2+c^2*b^2 - c^2*a^2+b^2*a^2*d+2*b^2*a^2 - b^2+a^2+1)*(a*a - b*b - 1 - d*(b*b*(a*a))):=by grind
 exact lin2 key q m
def padd(P Q:Pt):Pt where
 x:=(P.x*Q.y+Q.x*P.y)*fi (1+dF*(P.x*Q.x*(P.y*Q.y)))
 y:=(P.y*Q.y+P.x*Q.x)*fi (1 - dF*(P.x*Q.x*(P.y*Q.y)))
 on:=by
  have ha:=on_plus P.on Q.on
  have hb:=on_minus P.on Q.on
  refine on_sum P.on Q.on ha hb ?_ ?_
  ·have:=f_inv ha
   generalize fi (1+dF*(P.x*Q.x*(P.y*Q.y)))=c at*
   generalize 1+dF*(P.x*Q.x*(P.y*Q.y))=a at*
   grind
  have:=f_inv hb
  generalize fi (1 - dF*(P.x*Q.x*(P.y*Q.y)))=c at*
  generalize 1 - dF*(P.x*Q.x*(P.y*Q.y))=a at*
  grind
theorem padd_x(P Q:Pt):(padd P Q).x*(1+dF*(P.x*Q.x*(P.y*Q.y)))=P.x*Q.y+Q.x*P.y:=by
 have:=f_inv (on_plus P.on Q.on)
 show (P.x*Q.y+Q.x*P.y)*fi _*_=_
 generalize fi (1+dF*(P.x*Q.x*(P.y*Q.y)))=c at*
 generalize 1+dF*(P.x*Q.x*(P.y*Q.y))=a at*
 grind
theorem padd_y(P Q:Pt):(padd P Q).y*(1 - dF*(P.x*Q.x*(P.y*Q.y)))=P.y*Q.y+P.x*Q.x:=by
 have:=f_inv (on_minus P.on Q.on)
 show (P.y*Q.y+P.x*Q.x)*fi _*_=_
 generalize fi (1 - dF*(P.x*Q.x*(P.y*Q.y)))=c at*
 generalize 1 - dF*(P.x*Q.x*(P.y*Q.y))=a at*
 grind
theorem padd_of {P Q R:Pt}(b:R.x*(1+dF*(P.x*Q.x*(P.y*Q.y)))=P.x*Q.y+Q.x*P.y)(a:R.y*(1 - dF*(P.x*Q.x*(P.y*Q.y)))=P.y*Q.y+P.x*Q.x):R=padd P Q:=
 Pt.ext' (zes (on_plus P.on Q.on) (b.trans (padd_x P Q).symm)) (zes (on_minus P.on Q.on) (a.trans (padd_y P Q).symm))
theorem padd_comm(P Q:Pt):padd P Q=padd Q P:=by
 refine padd_of ?_ ?_
 ·have:=padd_x P Q
  have e:1+dF*(Q.x*P.x*(Q.y*P.y))=1+dF*(P.x*Q.x*(P.y*Q.y)):=by grind
  rw[e,this]
  grind
 have:=padd_y P Q
 have e:1 - dF*(Q.x*P.x*(Q.y*P.y))=1 - dF*(P.x*Q.x*(P.y*Q.y)):=by grind
 rw[e,this]
 grind
def pzero:Pt:=⟨0,1,by unfold On;grind⟩
def pneg(P:Pt):Pt:=⟨-P.x,P.y,by have:=P.on;unfold On at*;grind⟩
theorem padd_zero(P:Pt):padd P pzero=P:=by
 refine(padd_of ?_ ?_).symm
 ·show P.x*(1+dF*(P.x*0*(P.y*1)))=P.x*1+0*P.y
  grind
 show P.y*(1 - dF*(P.x*0*(P.y*1)))=P.y*1+P.x*0
 grind
theorem zero_padd(P:Pt):padd pzero P=P:=by rw[padd_comm,padd_zero]
theorem padd_neg(P:Pt):padd P (pneg P)=pzero:=by
 have h:=P.on
 unfold On at h
 refine(padd_of ?_ ?_).symm
 ·show 0*(1+dF*(P.x* -P.x*(P.y*P.y)))=P.x*P.y+ -P.x*P.y
  grind
 show 1*(1 - dF*(P.x* -P.x*(P.y*P.y)))=P.y*P.y+P.x* -P.x
 grind
theorem assoc_x {g f b a e c d:Fp}(j:f*f - g*g - 1 - d*(g*g*(f*f))=0)(h:a*a - b*b - 1 - d*(b*b*(a*a))=0)(i:c*c - e*e - 1 - d*(e*e*(c*c))=0):
  ((g*a+b*f)*(1 - d*(g*b*(f*a)))*c+e*((f*a+g*b)*(1+d*(g*b*(f*a)))))*((1+d*(b*e*(a*c)))*(1 - d*(b*e*(a*c)))+d*(g*f*((b*c+e*a)*(a*c+b*e))))
  =(g*((a*c+b*e)*(1+d*(b*e*(a*c))))+(b*c+e*a)*(1 - d*(b*e*(a*c)))*f)*((1+d*(g*b*(f*a)))*(1 - d*(g*b*(f*a)))+d*((g*a+b*f)*(f*a+g*b)*(e*c))):=by
 refine lin3 (c1:=(-(g*b*b*b*b*a*a*a*e*e*c*d*d) - g*b*b*b*b*a*e*e*c*d - g*b*b*b*a*a*a*a*e*c*c*d*d - g*b*b*b*a*a*e*e*e*d - g*b*b*b*a*a*e*d+g*b*b*a*a*a*c*c*c*d - g*b*b*a*a*a*c*d+g*b*a*a*a*a*e*c*c*d+f*b*b*b*b*a*a*a*e*c*c*d*d+f*b*b*b*b*a*e*c*c*d+f*b*b*b*a*a*a*a*e*e*c*d*d+f*b*b*b*a*a*c*c*c*d - f*b*b*b*a*a*c*d - f*b*b*a*a*a*e*e*e*d - f*b*b*a*a*a*e*d - f*b*a*a*a*a*e*e*c*d)) (c2:=(g*g*g*b*b*a*e*e*c*d+g*g*g*b*a*a*e*c*c*d+g*g*g*b*e*e*e*c*c*d+g*g*g*b*e*e*e - g*g*g*b*e*c*c+g*g*g*b*e+g*g*g*a*e*e*c*c*c*d+g*g*g*a*e*e*c - g*g*g*a*c*c*c+g*g*g*a*c+g*g*f*b*b*a*e*e*e*c*c*d*d - g*g*f*b*b*a*e*c*c*d - g*g*f*b*a*a*e*e*c*c*c*d*d - g*g*f*b*a*a*e*e*c*d+g*g*f*b*e*e*c*c*c*d+g*g*f*b*e*e*c - g*g*f*b*c*c*c+g*g*f*b*c+g*g*f*a*e*e*e*c*c*d+g*g*f*a*e*e*e - g*g*f*a*e*c*c+g*g*f*a*e - g*f*f*b*b*a*e*e*c*c*c*d*d - g*f*f*b*b*a*e*e*c*d+g*f*f*b*a*a*e*e*e*c*c*d*d - g*f*f*b*a*a*e*c*c*d - g*f*f*b*e*e*e*c*c*d - g*f*f*b*e*e*e+g*f*f*b*e*c*c - g*f*f*b*e - g*f*f*a*e*e*c*c*c*d - g*f*f*a*e*e*c+g*f*f*a*c*c*c - g*f*f*a*c+g*b*b*a*e*e*c*d+g*b*a*a*e*c*c*d+g*b*e*e*e*c*c*d+g*b*e*e*e - g*b*e*c*c+g*b*e+g*a*e*e*c*c*c*d+g*a*e*e*c - g*a*c*c*c+g*a*c+f*f*f*b*b*a*e*c*c*d+f*f*f*b*a*a*e*e*c*d - f*f*f*b*e*e*c*c*c*d - f*f*f*b*e*e*c+f*f*f*b*c*c*c - f*f*f*b*c - f*f*f*a*e*e*e*c*c*d - f*f*f*a*e*e*e+f*f*f*a*e*c*c - f*f*f*a*e - f*b*b*a*e*c*c*d - f*b*a*a*e*e*c*d+f*b*e*e*c*c*c*d+f*b*e*e*c - f*b*c*c*c+f*b*c+f*a*e*e*e*c*c*d+f*a*e*e*e - f*a*e*c*c+f*a*e)) (c3:=(-(g*g*g*b*b*b*e) - g*g*g*b*b*a*c+g*g*g*b*a*a*e - g*g*g*b*e+g*g*g*a*a*a*c - g*g*g*a*c - g*g*f*b*b*b*c - g*g*f*b*b*a*e*d - g*g*f*b*b*a*e+g*g*f*b*a*a*c*d+g*g*f*b*a*a*c - g*g*f*b*c+g*g*f*a*a*a*e - g*g*f*a*e+g*f*f*b*b*b*e+g*f*f*b*b*a*c*d+g*f*f*b*b*a*c - g*f*f*b*a*a*e*d - g*f*f*b*a*a*e+g*f*f*b*e - g*f*f*a*a*a*c+g*f*f*a*c - g*b*b*b*e - g*b*b*a*c+g*b*a*a*e - g*b*e+g*a*a*a*c - g*a*c+f*f*f*b*b*b*c+f*f*f*b*b*a*e - f*f*f*b*a*a*c+f*f*f*b*c - f*f*f*a*a*a*e+f*f*f*a*e - f*b*b*b*c - f*b*b*a*e+f*b*a*a*c - f*b*c+f*a*a*a*e - f*a*e)) ?_ j h i
 clear j h i
 grind
theorem assoc_y {g f b a e c d:Fp}(j:f*f - g*g - 1 - d*(g*g*(f*f))=0)(h:a*a - b*b - 1 - d*(b*b*(a*a))=0)(i:c*c - e*e - 1 - d*(e*e*(c*c))=0):
  ((f*a+g*b)*(1+d*(g*b*(f*a)))*c+(g*a+b*f)*(1 - d*(g*b*(f*a)))*e)*((1+d*(b*e*(a*c)))*(1 - d*(b*e*(a*c))) - d*(g*f*((b*c+e*a)*(a*c+b*e))))
  =(f*((a*c+b*e)*(1+d*(b*e*(a*c))))+g*((b*c+e*a)*(1 - d*(b*e*(a*c)))))*((1+d*(g*b*(f*a)))*(1 - d*(g*b*(f*a))) - d*((g*a+b*f)*(f*a+g*b)*(e*c))):=by
 refine lin3 (c1:=(g*b*b*b*b*a*a*a*e*c*c*d*d+g*b*b*b*b*a*e*c*c*d+g*b*b*b*a*a*a*a*e*e*c*d*d+g*b*b*b*a*a*c*c*c*d - g*b*b*b*a*a*c*d - g*b*b*a*a*a*e*e*e*d - g*b*b*a*a*a*e*d - g*b*a*a*a*a*e*e*c*d - f*b*b*b*b*a*a*a*e*e*c*d*d - f*b*b*b*b*a*e*e*c*d - f*b*b*b*a*a*a*a*e*c*c*d*d - f*b*b*b*a*a*e*e*e*d - f*b*b*b*a*a*e*d+f*b*b*a*a*a*c*c*c*d - f*b*b*a*a*a*c*d+f*b*a*a*a*a*e*c*c*d)) (c2:=(-(g*g*g*b*b*a*e*c*c*d) - g*g*g*b*a*a*e*e*c*d+g*g*g*b*e*e*c*c*c*d+g*g*g*b*e*e*c - g*g*g*b*c*c*c+g*g*g*b*c+g*g*g*a*e*e*e*c*c*d+g*g*g*a*e*e*e - g*g*g*a*e*c*c+g*g*g*a*e+g*g*f*b*b*a*e*e*c*c*c*d*d+g*g*f*b*b*a*e*e*c*d - g*g*f*b*a*a*e*e*e*c*c*d*d+g*g*f*b*a*a*e*c*c*d+g*g*f*b*e*e*e*c*c*d+g*g*f*b*e*e*e - g*g*f*b*e*c*c+g*g*f*b*e+g*g*f*a*e*e*c*c*c*d+g*g*f*a*e*e*c - g*g*f*a*c*c*c+g*g*f*a*c - g*f*f*b*b*a*e*e*e*c*c*d*d+g*f*f*b*b*a*e*c*c*d+g*f*f*b*a*a*e*e*c*c*c*d*d+g*f*f*b*a*a*e*e*c*d - g*f*f*b*e*e*c*c*c*d - g*f*f*b*e*e*c+g*f*f*b*c*c*c - g*f*f*b*c - g*f*f*a*e*e*e*c*c*d - g*f*f*a*e*e*e+g*f*f*a*e*c*c - g*f*f*a*e - g*b*b*a*e*c*c*d - g*b*a*a*e*e*c*d+g*b*e*e*c*c*c*d+g*b*e*e*c - g*b*c*c*c+g*b*c+g*a*e*e*e*c*c*d+g*a*e*e*e - g*a*e*c*c+g*a*e - f*f*f*b*b*a*e*e*c*d - f*f*f*b*a*a*e*c*c*d - f*f*f*b*e*e*e*c*c*d - f*f*f*b*e*e*e+f*f*f*b*e*c*c - f*f*f*b*e - f*f*f*a*e*e*c*c*c*d - f*f*f*a*e*e*c+f*f*f*a*c*c*c - f*f*f*a*c+f*b*b*a*e*e*c*d+f*b*a*a*e*c*c*d+f*b*e*e*e*c*c*d+f*b*e*e*e - f*b*e*c*c+f*b*e+f*a*e*e*c*c*c*d+f*a*e*e*c - f*a*c*c*c+f*a*c)) (c3:=(-(g*g*g*b*b*b*c) - g*g*g*b*b*a*e+g*g*g*b*a*a*c - g*g*g*b*c+g*g*g*a*a*a*e - g*g*g*a*e - g*g*f*b*b*b*e - g*g*f*b*b*a*c*d - g*g*f*b*b*a*c+g*g*f*b*a*a*e*d+g*g*f*b*a*a*e - g*g*f*b*e+g*g*f*a*a*a*c - g*g*f*a*c+g*f*f*b*b*b*c+g*f*f*b*b*a*e*d+g*f*f*b*b*a*e - g*f*f*b*a*a*c*d - g*f*f*b*a*a*c+g*f*f*b*c - g*f*f*a*a*a*e+g*f*f*a*e - g*b*b*b*c - g*b*b*a*e+g*b*a*a*c - g*b*c+g*a*a*a*e - g*a*e+f*f*f*b*b*b*e+f*f*f*b*b*a*c - f*f*f*b*a*a*e+f*f*f*b*e - f*f*f*a*a*a*c+f*f*f*a*c - f*b*b*b*e - f*b*b*a*c+f*b*a*a*e - f*b*e+f*a*a*a*c - f*a*c)) ?_ j h i
 clear j h i
 grind
theorem On.zero {x y:Fp}(h:On x y):y*y - x*x - 1 - dF*(x*x*(y*y))=0:=by
 unfold On at h
 rw[h]
 grind
theorem lift_x {d A B n m a b u v x:Fp}(f:a*A=n)(c:b*B=m)(h:x*(1+d*(a*u*(b*v)))=a*v+u*b):x*(A*B+d*(n*m*(u*v)))=n*B*v+u*(m*A):=by
 subst f c
 have e:x*(A*B+d*(a*A*(b*B)*(u*v)))=x*(1+d*(a*u*(b*v)))*(A*B):=by grind
 rw[e,h]
 grind
theorem lift_y {d A B n m a b u v y:Fp}(f:a*A=n)(c:b*B=m)(h:y*(1 - d*(a*u*(b*v)))=b*v+a*u):y*(A*B - d*(n*m*(u*v)))=m*A*v+n*B*u:=by
 subst f c
 have e:y*(A*B - d*(a*A*(b*B)*(u*v)))=y*(1 - d*(a*u*(b*v)))*(A*B):=by grind
 rw[e,h]
 grind
theorem lift_ne {d A B n m a b u v:Fp}(c:a*A=n)(g:b*B=m)(f:A≠0)(i:B≠0)(h:1+d*(a*u*(b*v))≠0):A*B+d*(n*m*(u*v))≠0:=by
 subst c g
 have e:A*B+d*(a*A*(b*B)*(u*v))=(1+d*(a*u*(b*v)))*(A*B):=by grind
 rw[e]
 exact zbt h (zbt f i)
theorem lift_ne' {d A B n m a b u v:Fp}(c:a*A=n)(g:b*B=m)(f:A≠0)(i:B≠0)(h:1 - d*(a*u*(b*v))≠0):A*B - d*(n*m*(u*v))≠0:=by
 subst c g
 have e:A*B - d*(a*A*(b*B)*(u*v))=(1 - d*(a*u*(b*v)))*(A*B):=by grind
 rw[e]
 exact zbt h (zbt f i)
theorem frac_eq {x z D E N M:Fp}(b:D≠0)(a:E≠0)(c:x*D=N)(d:z*E=M)(h:N*E=M*D):x=z:=by
 apply zes (zbt b a)
 subst c d
 grind
theorem assoc_core {j k i g h f d a b c e K N U Q:Fp}
  (E:k*k - j*j - 1 - d*(j*j*(k*k))=0) (x:g*g - i*i - 1 - d*(i*i*(g*g))=0) (t:f*f - h*h - 1 - d*(h*h*(f*f))=0)
  (m:a*(1+d*(j*i*(k*g)))=j*g+i*k) (l:b*(1 - d*(j*i*(k*g)))=k*g+j*i)
  (n:c*(1+d*(i*h*(g*f)))=i*f+h*g) (p:e*(1 - d*(i*h*(g*f)))=g*f+i*h)
  (H:1+d*(j*i*(k*g))≠0) (z:1 - d*(j*i*(k*g))≠0) (G:1+d*(i*h*(g*f))≠0) (C:1 - d*(i*h*(g*f))≠0)
  (L:1+d*(a*h*(b*f))≠0) (J:1 - d*(a*h*(b*f))≠0) (V:1+d*(c*j*(e*k))≠0) (S:1 - d*(c*j*(e*k))≠0)
  (O:K*(1+d*(a*h*(b*f)))=a*f+h*b) (M:N*(1 - d*(a*h*(b*f)))=b*f+a*h)
  (I:U*(1+d*(c*j*(e*k)))=c*k+j*e) (P:Q*(1 - d*(c*j*(e*k)))=e*k+c*j):K=U∧N=Q:=by
 have s:=lift_x m l O
 have u:=lift_y m l M
 have D:=lift_x n p I
 have y:=lift_y n p P
 have F:=lift_ne m l H z L
 have A:=lift_ne' m l H z J
 have r:=lift_ne n p G C V
 have q:=lift_ne' n p G C S
 have R:=assoc_x E x t
 have T:=assoc_y E x t
 clear m l n p O M I P H z G C L J V S E x t
 refine⟨?_,?_⟩
 ·refine frac_eq F r s D ?_
  clear F A r q s D u y T
  have v:(1+d*(i*h*(g*f)))*(1 - d*(i*h*(g*f)))+d*((i*f+h*g)*(g*f+i*h)*(j*k))=(1+d*(i*h*(g*f)))*(1 - d*(i*h*(g*f)))+d*(j*k*((i*f+h*g)*(g*f+i*h))):=by
   rw[Fin.mul_comm _ (j*k)]
  have B:(i*f+h*g)*(1 - d*(i*h*(g*f)))*k+j*((g*f+i*h)*(1+d*(i*h*(g*f))))=j*((g*f+i*h)*(1+d*(i*h*(g*f))))+(i*f+h*g)*(1 - d*(i*h*(g*f)))*k:=by grind
  rw[v,B]
  exact R
 refine frac_eq A q u y ?_
 clear F A r q s D u y R
 have v:(1+d*(i*h*(g*f)))*(1 - d*(i*h*(g*f))) - d*((i*f+h*g)*(g*f+i*h)*(j*k))=(1+d*(i*h*(g*f)))*(1 - d*(i*h*(g*f))) - d*(j*k*((i*f+h*g)*(g*f+i*h))):=by
  rw[Fin.mul_comm _ (j*k)]
 have B:(g*f+i*h)*(1+d*(i*h*(g*f)))*k+(i*f+h*g)*(1 - d*(i*h*(g*f)))*j=k*((g*f+i*h)*(1+d*(i*h*(g*f))))+j*((i*f+h*g)*(1 - d*(i*h*(g*f)))):=by
  rw[Fin.mul_comm _ k,Fin.mul_comm _ j]
 rw[v,B]
 exact T
theorem padd_assoc'(P Q R:Pt):(padd (padd P Q) R).x=(padd (padd Q R) P).x∧(padd (padd P Q) R).y=(padd (padd Q R) P).y:=
 assoc_core P.on.zero Q.on.zero R.on.zero (padd_x P Q) (padd_y P Q) (padd_x Q R) (padd_y Q R) (on_plus P.on Q.on) (on_minus P.on Q.on) (on_plus Q.on R.on) (on_minus Q.on R.on)
  (on_plus (padd P Q).on R.on) (on_minus (padd P Q).on R.on) (on_plus (padd Q R).on P.on) (on_minus (padd Q R).on P.on)
  (padd_x (padd P Q) R) (padd_y (padd P Q) R) (padd_x (padd Q R) P) (padd_y (padd Q R) P)
theorem padd_assoc(P Q R:Pt):padd (padd P Q) R=padd P (padd Q R):=
 Eq.trans (b:=padd (padd Q R) P) (Pt.ext' (padd_assoc' P Q R).1 (padd_assoc' P Q R).2) (padd_comm (padd Q R) P)
def pmul:Nat→Pt→Pt
 |0,_=>pzero
 |n+1,P=>padd (pmul n P) P
theorem pmul_zero(P:Pt):pmul 0 P=pzero:=rfl
theorem pmul_succ(n:Nat)(P:Pt):pmul (n+1) P=padd (pmul n P) P:=rfl
theorem pmul_one(P:Pt):pmul 1 P=P:=zero_padd P
theorem pmul_add(m:Nat)(P:Pt):∀n,pmul (m+n) P=padd (pmul m P) (pmul n P)
 |0=>by rw[q149,pmul_zero,padd_zero]
 |n+1=>by
  rw[←Nat.add_assoc,pmul_succ,pmul_succ,pmul_add m P n,padd_assoc]
theorem pmul_two(n:Nat)(P:Pt):pmul (2*n) P=padd (pmul n P) (pmul n P):=by
 rw[Nat.two_mul,pmul_add]
theorem pmul_mul(m:Nat)(P:Pt):∀n,pmul (n*m) P=pmul n (pmul m P)
 |0=>by rw[Nat.zero_mul];rfl
 |n+1=>by
  rw[Nat.add_mul,Nat.one_mul,pmul_add,pmul_mul m P n,pmul_succ]
theorem pmul_pzero:∀n,pmul n pzero=pzero
 |0=>rfl
 |n+1=>by rw[pmul_succ,pmul_pzero n,padd_zero]
theorem padd_left_comm(P Q R:Pt):padd P (padd Q R)=padd Q (padd P R):=by
 rw[←padd_assoc,padd_comm P Q,padd_assoc]
theorem pmul_padd(P Q:Pt):∀n,pmul n (padd P Q)=padd (pmul n P) (pmul n Q)
 |0=>by rw[pmul_zero,pmul_zero,pmul_zero,padd_zero]
 |n+1=>by
  rw[pmul_succ,pmul_succ,pmul_succ,pmul_padd P Q n,padd_assoc,padd_assoc,padd_left_comm (pmul n Q)]
theorem pmul_mod {q:Nat} {P:Pt}(h:pmul q P=pzero)(n:Nat):pmul (n%q) P=pmul n P:=by
 have e:n=n / q*q+n%q:=(Nat.div_add_mod' n q).symm
 conv=>rhs;rw[e,pmul_add,pmul_mul,h,pmul_pzero,zero_padd]
theorem f_add_self {a:Fp}(h:a+a=0):a=0:=by
 have:2*a=0:=by grind
 rcases f_dom this with h|h
 ·exact absurd h f_two_ne
 exact h
theorem f_both {a b:Fp}(h:a+b=0)(g:a - b=0):a=0∧b=0:=by
 have h1:a+a=0:=by grind
 have h2:=f_add_self h1
 subst h2
 rw[Fin.zero_add]at h
 exact⟨rfl,h⟩
theorem f_sq {a:Fp}(h:a*a=0):a=0:=by
 rcases f_dom h with h|h<;>exact h
theorem f_self(a:Fp):a - a=0:=by grind
theorem f_flip {a b:Fp}(h:a - b=0):b - a=0:=by rw[f_sub h,f_self]
theorem f_comm(a b:Fp):a+b=b+a:=by grind
theorem f_neg_prod(a b c:Fp):(-(a*b) - c)*(-(a*b)+c)=a*a*(b*b) - c*c:=by grind
def Rep(P:Pt)(X Z:Fp):Prop:=X - Z=P.y*(X+Z)∧X+Z≠0
theorem f_c_ne:(121666:Fp)≠0:=by
 have e:(121666:Fp)=fp 121666:=by decide+kernel
 rw[e]
 intro h
 have:=fp_zero_iff.1 h
 revert this
 decide+kernel
theorem dbl_core {x y z d c:Fp}(f:d*(c+1)=-c)(g:c+1≠0)(h:y*y - x*x=1+d*(x*x*(y*y)))(e:1 - d*(x*x*(y*y))≠0)(b:z*(1 - d*(x*x*(y*y)))=y*y+x*x):
  y*y - (1 - y*y)*(1+c*(1 - y*y))=z*(y*y+(1 - y*y)*(1+c*(1 - y*y))):=by
 have j:1 - d*(x*x*(y*y))=2+x*x - y*y:=by grind
 rw[j]at e b
 apply zes e
 have r:z*(y*y+(1 - y*y)*(1+c*(1 - y*y)))*(2+x*x - y*y)=z*(2+x*x - y*y)*(y*y+(1 - y*y)*(1+c*(1 - y*y))):=by grind
 rw[r,b]
 clear r e b j
 -- x^2 (c + 1 - c y^2) = (c + 1) (y^2 - 1)
 have k:x*x*(c+1 - c*(y*y))=(c+1)*(y*y - 1):=by
  have l:(c+1)*(y*y - x*x)=(c+1)+d*(c+1)*(x*x*(y*y)):=by rw[h];grind
  rw[f]at l
  grind
 have a:(1+c - c*(y*y))*(1+x*x)=y*y:=by grind
 have i:(y*y - (1 - y*y)*(1+c*(1 - y*y)))*(2+x*x - y*y) - (y*y+x*x)*(y*y+(1 - y*y)*(1+c*(1 - y*y)))=2*(1 - y*y)*(y*y - (1+c - c*(y*y))*(1+x*x)):=by
  clear k a h f g
  grind
 apply f_sub
 rw[i,a]
 clear i k a h f g
 grind
theorem rep_dbl {P:Pt} {X Z:Fp}(h:Rep P X Z):
  Rep (padd P P) ((X+Z)*(X+Z)*((X - Z)*(X - Z))) (((X+Z)*(X+Z) - (X - Z)*(X - Z))*((X+Z)*(X+Z)+121665*((X+Z)*(X+Z) - (X - Z)*(X - Z)))):=by
 obtain⟨h1,h2⟩:=h
 rw[h1]
 generalize X+Z=a at h2
 clear h1
 have m:dF*(121665+1)=-121665:=by
  have e:(121665:Fp)+1=121666:=by decide+kernel
  rw[e]
  exact dF_eq
 have f:(121665:Fp)+1≠0:=by
  have e:(121665:Fp)+1=121666:=by decide+kernel
  rw[e]
  exact f_c_ne
 have key:=dbl_core m f P.on (on_minus P.on P.on) (padd_y P P)
 unfold Rep
 generalize (padd P P).y=z at key⊢
 generalize (121665:Fp)=c at*
 generalize n:P.y=y at*
 have s:a*a*(y*a*(y*a))=a*a*(a*a)*(y*y):=by grind
 have t:(a*a - y*a*(y*a))*(a*a+c*(a*a - y*a*(y*a)))=a*a*(a*a)*((1 - y*y)*(1+c*(1 - y*y))):=by grind
 rw[s,t]
 have i:a*a*(a*a)≠0:=zbt (zbt h2 h2) (zbt h2 h2)
 generalize a*a*(a*a)=k at*
 refine⟨?_,fun b=>?_⟩
 ·have d:k*(y*y) - k*((1 - y*y)*(1+c*(1 - y*y)))=k*(y*y - (1 - y*y)*(1+c*(1 - y*y))):=by grind
  rw[d,key]
  clear d key
  grind
 have d:k*(y*y)+k*((1 - y*y)*(1+c*(1 - y*y)))=(y*y+(1 - y*y)*(1+c*(1 - y*y)))*k:=by grind
 rw[d]at b
 rcases f_dom b with b|b
 ·rw[b,Fin.mul_zero]at key
  obtain⟨j,g⟩:=f_both b key
  have l:=f_sq j
  subst l
  apply f
  have:(1 - 0*0)*(1+c*(1 - 0*0))=c+1:=by grind
  rw[←this]
  exact g
 exact i b
theorem dif_core {f b c a s u d:Fp}(h2:b*b - f*f - 1 - d*(f*f*(b*b))=0)(h:a*a - c*c - 1 - d*(c*c*(a*a))=0)
  (j:1+d*(f*c*(b*a))≠0) (g:1 - d*(f*c*(b*a))≠0)
  (i:s*(1 - d*(f*c*(b*a)))=b*a+f*c) (k:u*(1+d*(f*c*(b*a)))=b*a - f*c):
  (b+a)*(b+a)*((1 - s)*(1 - u))=(a - b)*(a - b)*((1+s)*(1+u)):=by
 apply zes (zbt j g)
 have l:(b+a)*(b+a)*((1 - s)*(1 - u))*((1+d*(f*c*(b*a)))*(1 - d*(f*c*(b*a))))=(b+a)*(b+a)*((1 - d*(f*c*(b*a)) - s*(1 - d*(f*c*(b*a))))*(1+d*(f*c*(b*a)) - u*(1+d*(f*c*(b*a))))):=by
  generalize d*(f*c*(b*a))=e
  clear i k j g h2 h
  grind
 have r:(a - b)*(a - b)*((1+s)*(1+u))*((1+d*(f*c*(b*a)))*(1 - d*(f*c*(b*a))))=(a - b)*(a - b)*((1 - d*(f*c*(b*a))+s*(1 - d*(f*c*(b*a))))*(1+d*(f*c*(b*a))+u*(1+d*(f*c*(b*a))))):=by
  generalize d*(f*c*(b*a))=e
  clear i k j g h2 h
  grind
 rw[l,r,i,k]
 clear l r i k j g
 refine lin2 (c1:=(4*b*c*c*a*a*a*d+4*b*c*c*a)) (c2:=(4*b*b*b*a - 4*b*a)) ?_ h2 h
 clear h2 h
 grind
theorem rep_dif {g f Q:Pt} {v D q p h:Fp}(h2:Rep g v D)(h3:Rep f q p)(E:padd g Q=f∨padd f Q=g)(i:h*(1 - Q.y)=1+Q.y)(S:h≠0):
  Rep (padd g f) (((q - p)*(v+D)+(q+p)*(v - D))*((q - p)*(v+D)+(q+p)*(v - D))) (h*(((q - p)*(v+D) - (q+p)*(v - D))*((q - p)*(v+D) - (q+p)*(v - D)))):=by
 obtain⟨R,F⟩:=h2
 obtain⟨V,J⟩:=h3
 rw[R,V]
 generalize v+D=a at F
 generalize q+p=c at J
 clear R V
 -- the difference's y
 have m:Q.y*(1+dF*(g.x*f.x*(g.y*f.y)))=g.y*f.y - g.x*f.x:=by
  rcases E with E|E
  ·have e:Q=padd (pneg g) f:=by rw[←E,←padd_assoc,padd_comm (pneg g),padd_neg,zero_padd]
   have:=padd_y (pneg g) f
   rw[←e]at this
   have l:1+dF*(g.x*f.x*(g.y*f.y))=1 - dF*((pneg g).x*f.x*((pneg g).y*f.y)):=by
    show _=1 - dF*(-g.x*f.x*(g.y*f.y))
    generalize g.x=z;generalize f.x=C;generalize g.y=d;generalize f.y=b
    grind
   rw[l,this]
   show g.y*f.y+ -g.x*f.x=_
   generalize g.x=z;generalize f.x=C;generalize g.y=d;generalize f.y=b
   grind
  have e:Q=padd (pneg f) g:=by rw[←E,←padd_assoc,padd_comm (pneg f),padd_neg,zero_padd]
  have:=padd_y (pneg f) g
  rw[←e]at this
  have l:1+dF*(g.x*f.x*(g.y*f.y))=1 - dF*((pneg f).x*g.x*((pneg f).y*g.y)):=by
   show _=1 - dF*(-f.x*g.x*(f.y*g.y))
   generalize g.x=z;generalize f.x=C;generalize g.y=d;generalize f.y=b
   grind
  rw[l,this]
  show f.y*g.y+ -f.x*g.x=_
  generalize g.x=z;generalize f.x=C;generalize g.y=d;generalize f.y=b
  grind
 have j:=g.on
 have n:=f.on
 have key:=dif_core g.on.zero f.on.zero (on_plus g.on f.on) (on_minus g.on f.on) (padd_y g f) m
 unfold Rep
 unfold On at j n
 clear E
 generalize (padd g f).y=s at key⊢
 generalize Q.y=u at*
 generalize g.y=d at*
 generalize f.y=b at*
 generalize g.x=z at*
 generalize f.x=C at*
 have Z:(b*c*a+c*(d*a))*(b*c*a+c*(d*a))=c*a*(c*a)*((d+b)*(d+b)):=by
  clear key m i j n
  grind
 have X:h*((b*c*a - c*(d*a))*(b*c*a - c*(d*a)))=c*a*(c*a)*(h*((b - d)*(b - d))):=by
  clear key m i j n
  grind
 rw[Z,X]
 clear Z X
 have w:c*a*(c*a)≠0:=zbt (zbt J F) (zbt J F)
 generalize c*a*(c*a)=k at w
 clear F J
 have O:1 - u≠0:=fun e=>by
  rw[e,Fin.mul_zero]at i
  have:u=1:=by grind
  subst this
  have h2:(2:Fp)=0:=by
   have:(2:Fp)=1+1:=by decide+kernel
   rw[this,←i]
  exact f_two_ne h2
 -- (d + b)^2 (1 - s) = h (b - d)^2 (1 + s)
 have M:(d+b)*(d+b)*(1 - s)=h*((b - d)*(b - d))*(1+s):=by
  apply zes O
  have r:h*((b - d)*(b - d))*(1+s)*(1 - u)=(b - d)*(b - d)*((1+s)*(h*(1 - u))):=by
   clear key m i j n
   grind
  rw[r,i,←key]
  clear key r m i j n
  grind
 refine⟨?_,fun H=>?_⟩
 ·have t:(d+b)*(d+b) - h*((b - d)*(b - d))=s*((d+b)*(d+b)+h*((b - d)*(b - d))):=by
   clear key m i j n
   generalize (d+b)*(d+b)=A at*
   generalize h*((b - d)*(b - d))=B at*
   grind
  clear key m i j n M
  generalize (d+b)*(d+b)=A at*
  generalize h*((b - d)*(b - d))=B at*
  have l:k*A - k*B=k*(A - B):=by clear t;grind
  have r:s*(k*A+k*B)=k*(s*(A+B)):=by clear t;grind
  rw[l,r,t]
 have P:k*((d+b)*(d+b)+h*((b - d)*(b - d)))=0:=by
  rw[←H]
  clear key m i j n M H
  grind
 have G:(d+b)*(d+b)+h*((b - d)*(b - d))=0:=by
  rcases f_dom P with e|e
  ·exact absurd e w
  exact e
 have W:(d+b)*(d+b) - h*((b - d)*(b - d))=0:=by
  have:(d+b)*(d+b) - h*((b - d)*(b - d))=s*((d+b)*(d+b)+h*((b - d)*(b - d))):=by
   clear key m i j n P G H
   generalize (d+b)*(d+b)=A at*
   generalize h*((b - d)*(b - d))=B at*
   grind
  rw[this,G,Fin.mul_zero]
 obtain⟨Y,T⟩:=f_both G W
 have L:=f_sq Y
 have I:b - d=0:=by
  rcases f_dom T with e|e
  ·exact absurd e S
  exact f_sq e
 clear P G W Y T H M key
 have K:b+d=0:=by rw[←L];grind
 obtain⟨z3,z2⟩:=f_both K I
 subst z3 z2
 simp only[Fin.mul_zero,Fin.add_zero]at j n m
 -- both points have y = 0: x^2 = -1, and the difference is nought or its opposite
 have N:z*z=-1:=lin (-1) j (by clear m i n j L I K;generalize z*z=A;grind)
 have U:C*C=-1:=lin (-1) n (by clear m i n j L I K N;generalize C*C=A;grind)
 have q4:u=-(z*C):=lin 1 m (by clear m i j n L I K N U;generalize z*C=A;grind)
 have q5:(u - 1)*(u+1)=0:=by
  rw[q4,f_neg_prod,N,U]
  decide+kernel
 rcases f_dom q5 with e|e
 ·exact O (f_flip e)
 apply S
 have hz:h*(1 - u)=0:=by rw[i,f_comm,e]
 rcases f_dom hz with e|e
 ·exact e
 exact absurd e O
theorem f_two(y:Fp):(2:Fp)=-1*(-1*(1 - y) - (1+y)):=by grind
structure LS where
 x2:Fp
 z2:Fp
 x3:Fp
 z3:Fp
def LS.swap(s:LS):LS:=⟨s.x3,s.z3,s.x2,s.z2⟩
def LS.step(x1:Fp)(s:LS):LS where
 x2:=(s.x2+s.z2)*(s.x2+s.z2)*((s.x2 - s.z2)*(s.x2 - s.z2))
 z2:=((s.x2+s.z2)*(s.x2+s.z2) - (s.x2 - s.z2)*(s.x2 - s.z2))*((s.x2+s.z2)*(s.x2+s.z2)+121665*((s.x2+s.z2)*(s.x2+s.z2) - (s.x2 - s.z2)*(s.x2 - s.z2)))
 x3:=((s.x3 - s.z3)*(s.x2+s.z2)+(s.x3+s.z3)*(s.x2 - s.z2))*((s.x3 - s.z3)*(s.x2+s.z2)+(s.x3+s.z3)*(s.x2 - s.z2))
 z3:=x1*(((s.x3 - s.z3)*(s.x2+s.z2) - (s.x3+s.z3)*(s.x2 - s.z2))*((s.x3 - s.z3)*(s.x2+s.z2) - (s.x3+s.z3)*(s.x2 - s.z2)))
def LS.turn(b:Bool)(s:LS):LS:=if b then s.swap else s
def LS.bit(x1:Fp)(b:Bool)(s:LS):LS:=((s.turn b).step x1).turn b
def lrun(x1:Fp)(k:Nat):Nat→LS
 |0=>⟨1,0,x1,1⟩
 |t+1=>(lrun x1 k t).bit x1 (k.testBit (254 - t))
def lmul(k:Nat)(x1:Fp):Fp:=(lrun x1 k 255).x2*fi (lrun x1 k 255).z2
def uv(P:Pt):Fp:=(1+P.y)*fi (1 - P.y)
theorem rep_uv {P:Pt} {X Z:Fp}(h:Rep P X Z):X*fi Z=uv P:=by
 obtain⟨h1,h2⟩:=h
 unfold uv
 generalize P.y=y at*
 have c:X*(1 - y)=Z*(1+y):=lin 1 h1 (by clear h1 h2;grind)
 by_cases d:Z=0
 ·subst d
  have m:X≠0:=fun e=>h2 (by rw[e,Fin.add_zero])
  have p:1 - y=0:=by
   rw[Fin.zero_mul]at c
   rcases f_dom c with e|e
   ·exact absurd e m
   exact e
  rw[p,fi_zero,Fin.mul_zero,Fin.mul_zero]
 have j:1 - y≠0:=fun e=>by
  rw[e,Fin.mul_zero]at c
  rcases f_dom c.symm with i|i
  ·exact d i
  have n:=(f_both i e).1
  exact f_one_ne n
 apply zes (zbt d j)
 have g:=f_inv d
 have f:=f_inv j
 generalize fi Z=a at*
 generalize fi (1 - y)=b at*
 generalize k:1 - y=w at*
 generalize 1+y=v at*
 have l:X*a*(Z*w)=X*w*(Z*a):=by clear h1 h2 c k g f;grind
 have r:v*b*(Z*w)=Z*v*(w*b):=by clear h1 h2 c k g f;grind
 rw[l,r,g,f,c]
def LInv(Q:Pt)(n:Nat)(s:LS):Prop:=Rep (pmul n Q) s.x2 s.z2∧Rep (pmul (n+1) Q) s.x3 s.z3
theorem linv_step {Q:Pt} {n:Nat} {s:LS} {e:Fp}(i:e*(1 - Q.y)=1+Q.y)(g:e≠0)(h:LInv Q n s)(b:Bool):LInv Q (2*n+b.toNat) (s.bit e b):=by
 obtain⟨h2,d⟩:=h
 have j:padd (pmul n Q) Q=pmul (n+1) Q:=(pmul_succ n Q).symm
 have f:padd (pmul n Q) (pmul (n+1) Q)=pmul (2*n+1) Q:=by rw[←pmul_add];congr 1;omega
 cases b
 ·have a:=rep_dbl h2
  have c:=rep_dif h2 d (Or.inl j) i g
  rw[←pmul_two]at a
  rw[f]at c
  exact⟨a,c⟩
 have a:=rep_dbl d
 have c:=rep_dif d h2 (Or.inr j) i g
 rw[←pmul_two]at a
 rw[padd_comm,f]at c
 exact⟨c,a⟩
theorem shift_bit(k t:Nat)(ht:t<255):k>>>(255 - (t+1))=2*(k>>>(255 - t))+(k.testBit (254 - t)).toNat:=by
 have a:255 - (t+1)=254 - t:=by omega
 have b:255 - t=254 - t+1:=by omega
 rw[a,b,Nat.shiftRight_succ,Nat.testBit_eq_decide_div_mod_eq,←Nat.shiftRight_eq_div_pow]
 generalize k>>>(254 - t)=m
 by_cases h:m%2=1
 ·rw[decide_eq_true h]
  show m=2*(m / 2)+1
  omega
 rw[decide_eq_false h]
 show m=2*(m / 2)+0
 omega
theorem lrun_inv {Q:Pt} {k:Nat} {a:Fp}(c:k<2^255)(b:a*(1 - Q.y)=1+Q.y)(d:a≠0):∀t,t≤255→LInv Q (k>>>(255 - t)) (lrun a k t)
 |0,_=>by
  have e:k>>>(255 - 0)=0:=by
   rw[Nat.sub_zero,Nat.shiftRight_eq_div_pow]
   exact q160 c
  rw[e]
  refine⟨⟨?_,?_⟩,?_⟩
  ·rw[pmul_zero]
   show (1:Fp) - 0=1*(1+0)
   decide+kernel
  ·show (1:Fp)+0≠0
   rw[Fin.add_zero]
   exact f_one_ne
  rw[pmul_one]
  show a - 1=Q.y*(a+1)∧a+1≠0
  generalize Q.y=y at*
  refine⟨lin 1 b (by clear b;grind),fun e=>?_⟩
  have h1:a=-1:=lin 1 e (by clear b e;grind)
  subst h1
  have h2:=f_two y
  rw[b,f_self,Fin.mul_zero]at h2
  exact f_two_ne h2
 |t+1,h=>by
  rw[shift_bit k t (by omega)]
  exact linv_step b d (lrun_inv c b d t (by omega)) _
theorem lz(X c:Fp) {Z:Fp}(h:Z=0):((X+Z)*(X+Z) - (X - Z)*(X - Z))*((X+Z)*(X+Z)+c*((X+Z)*(X+Z) - (X - Z)*(X - Z)))=0:=by
 subst h
 have e:X - 0=X+0:=by grind
 rw[e,f_self,Fin.zero_mul]
theorem step_z2(a:Fp)(s:LS):(s.step a).z2=((s.x2+s.z2)*(s.x2+s.z2) - (s.x2 - s.z2)*(s.x2 - s.z2))*((s.x2+s.z2)*(s.x2+s.z2)+121665*((s.x2+s.z2)*(s.x2+s.z2) - (s.x2 - s.z2)*(s.x2 - s.z2))):=rfl
theorem step_z3(s:LS):(s.step 0).z3=0:=Fin.zero_mul _
theorem lzero_step(b:Bool)(s:LS)(h:s.z2=0∧s.z3=0):(s.bit 0 b).z2=0∧(s.bit 0 b).z3=0:=by
 obtain⟨h2,a⟩:=h
 cases b
 ·exact⟨(step_z2 0 s).trans (lz s.x2 121665 h2),step_z3 s⟩
 exact⟨step_z3 s.swap,(step_z2 0 s.swap).trans (lz s.swap.x2 121665 a)⟩
theorem lzero_first(b:Bool):((lrun 0 0 0).bit 0 b).z2=0∧((lrun 0 0 0).bit 0 b).z3=0:=by
 cases b<;>decide+kernel
theorem lzero_run(k:Nat):∀t,(lrun 0 k (t+1)).z2=0∧(lrun 0 k (t+1)).z3=0
 |0=>lzero_first _
 |t+1=>lzero_step _ _ (lzero_run k t)
theorem lmul_zero(k:Nat):lmul k 0=0:=by
 unfold lmul
 rw[(lzero_run k 254).1,fi_zero,Fin.mul_zero]
theorem uv_cross {P:Pt}(h:uv P≠0):uv P*(1 - P.y)=1+P.y:=by
 unfold uv at*
 by_cases a:1 - P.y=0
 ·rw[a,fi_zero,Fin.mul_zero]at h
  exact absurd rfl h
 have:=f_inv a
 generalize 1 - P.y=w at*
 generalize 1+P.y=v at*
 generalize fi w=b at*
 have l:v*b*w=v*(w*b):=by clear this h;grind
 rw[l,this,Fin.mul_one]
theorem uv_nought {P:Pt}(h:uv P=0):padd P P=pzero:=by
 have a:P.y*P.y=1:=by
  unfold uv at h
  by_cases a:1 - P.y=0
  ·have:=f_sub a
   rw[←this,Fin.mul_one]
  have c:=f_inv a
  rcases f_dom h with e|e
  ·have:P.y=-1:=lin 1 e (by clear e h c a;generalize P.y=y;grind)
   rw[this]
   decide+kernel
  rw[e,Fin.mul_zero]at c
  exact absurd c.symm f_one_ne
 have g:P.x=0:=by
  have b:=P.on
  unfold On at b
  rw[a,Fin.mul_one]at b
  have i:P.x*P.x*(1+dF)=0:=lin (-1) b (by clear b a h;generalize P.x=x;generalize dF=d;grind)
  rcases f_dom i with e|e
  ·exact f_sq e
  exfalso
  have f:dF*121666=-121666:=lin 121666 e (by clear e i b a h;generalize dF=d;grind)
  rw[dF_eq]at f
  revert f
  decide+kernel
 refine(padd_of ?_ ?_).symm
 ·show 0*_=_
  rw[g,Fin.zero_mul,Fin.zero_mul,Fin.zero_add]
 show 1*(1 - dF*(P.x*P.x*(P.y*P.y)))=P.y*P.y+P.x*P.x
 rw[g,a]
 decide+kernel
theorem uv_pzero:uv pzero=0:=by
 unfold uv
 have e:1 - pzero.y=0:=by
  show (1:Fp) - 1=0
  exact f_self 1
 rw[e,fi_zero,Fin.mul_zero]
theorem lmul_uv(P:Pt) {k:Nat}(a:k<2^255)(h2:k%2=0):lmul k (uv P)=uv (pmul k P):=by
 by_cases h:uv P=0
 ·rw[h,lmul_zero]
  have e:k=2*(k / 2):=by omega
  rw[e,pmul_two,←pmul_padd,uv_nought h,pmul_pzero,uv_pzero]
 have:=(lrun_inv a (uv_cross h) h 255 (q101 _)).1
 rw[Nat.sub_self,Nat.shiftRight_zero]at this
 exact rep_uv this
def bX:Int:=15112221349535400772501151409588531511454012693041857206046113283949847762202
def bY:Int:=46316835694926478169428394003475163141307993866256225615783033603165251855960
theorem b_on:On (fp bX) (fp bY):=by
 unfold On dF
 rw[←fp_mul,←fp_mul,←fp_sub,←fp_mul,←fp_mul,←fp_one,←fp_add,fp_eq]
 have:pP∣bY*bY - bX*bX - (1+dN*(bX*bX*(bY*bY))):=by decide+kernel
 exact this
def bP:Pt:=⟨fp bX,fp bY,b_on⟩
theorem uv_base:uv bP=9:=by
 have h:(9:Fp)*(1 - bP.y)=1+bP.y:=by
  show (9:Fp)*(1 - fp bY)=1+fp bY
  decide+kernel
 unfold uv
 rw[←h]
 have a:1 - bP.y≠0:=by
  show (1:Fp) - fp bY≠0
  decide+kernel
 have:=f_inv a
 generalize 1 - bP.y=w at*
 generalize fi w=b at*
 generalize (9:Fp)=n at*
 have l:n*w*b=n*(w*b):=by clear h a this;grind
 rw[l,this,Fin.mul_one]
def nbF(f:Fp):List UInt8:=bytesN 32 f.val
theorem zca(f:Fp):(nbF f).length=32:=zaq _ _
def clampB(l:List UInt8):List UInt8:=(l.set 0 (l.getD 0 0 &&& 248)).set 31 (((l.set 0 (l.getD 0 0 &&& 248)).getD 31 0 &&& 127)|||64)
def maskB(l:List UInt8):List UInt8:=l.set 31 (l.getD 31 0 &&& 127)
theorem zcy {l:List UInt8}(h:l.length=32):(clampB l).length=32:=by simp[clampB,h]
theorem maskB_length {l:List UInt8}(h:l.length=32):(maskB l).length=32:=by simp[maskB,h]
def ladB(kb ub:List UInt8):List UInt8:=nbF (lmul (leN (clampB kb)) (fp (leN (maskB ub))))
theorem ladB_length(a b:List UInt8):(ladB a b).length=32:=zca _
def nineB:List UInt8:=9::List.replicate 31 0
def pubB(k:List UInt8):List UInt8:=ladB k nineB
theorem nineB_length:nineB.length=32:=by simp[nineB]
def shErr(k u:List UInt8):Int:=if ladB k u=zer then 21 else 0
def ElF(v:Value)(f:Fp):Prop:=∃x:Int,IsEl v x∧fp x=f
theorem ElF.form {v:Value} {f:Fp}(h:ElF v f):∃zs:List Int,v=.agg (ints .i64 zs).toArray∧zs.length=16:=by
 obtain⟨x,⟨zs,h1,h2,_⟩,_⟩:=h
 exact⟨zs,h1,h2⟩
theorem el_zero:ElF (.agg (ints .i64 (List.replicate 16 0)).toArray) 0:=⟨0,⟨List.replicate 16 0,rfl,by simp,fun z a=>by rw[List.eq_of_mem_replicate a];omega,0,by decide⟩,fp_zero⟩
theorem radd_f {u v:Value} {a b:Fp}(w:World)(j:ElF u a)(g:ElF v b):Calls Tryz.prog 136 #[u,v] w fun e c=>∃r,e=.returned r∧ElF r (a+b)∧Below w.heap.size w c:=by
 obtain⟨x,h,rfl⟩:=j
 obtain⟨y,i,rfl⟩:=g
 refine(radd_any u v x y w h i).mono ?_
 rintro e c ⟨r,rfl,f,d⟩
 exact⟨r,rfl,⟨_,f,fp_add x y⟩,d⟩
theorem rsub_f {u v:Value} {a b:Fp}(w:World)(j:ElF u a)(g:ElF v b):Calls Tryz.prog 135 #[u,v] w fun e c=>∃r,e=.returned r∧ElF r (a - b)∧Below w.heap.size w c:=by
 obtain⟨x,h,rfl⟩:=j
 obtain⟨y,i,rfl⟩:=g
 refine(rsub_any u v x y w h i).mono ?_
 rintro e c ⟨r,rfl,f,d⟩
 exact⟨r,rfl,⟨_,f,fp_sub x y⟩,d⟩
theorem zcu {u v:Value} {a b:Fp}(w:World)(j:ElF u a)(g:ElF v b):Calls Tryz.prog 124 #[u,v] w fun e c=>∃r,e=.returned r∧ElF r (a*b)∧Below w.heap.size w c:=by
 obtain⟨x,h,rfl⟩:=j
 obtain⟨y,i,rfl⟩:=g
 refine(rmul_any u v x y w h i).mono ?_
 rintro e c ⟨r,rfl,f,d⟩
 exact⟨r,rfl,⟨_,f,fp_mul x y⟩,d⟩
theorem rone_f(n:Int)(w:World)(h1: -131072≤n)(h2:n≤131072):Calls Tryz.prog 126 #[.int .i64 n] w fun e a=>∃r,e=.returned r∧ElF r (fp n)∧Below w.heap.size w a:=by
 refine(rone_el n w h1 h2).mono ?_
 rintro e a ⟨r,rfl,b,c⟩
 exact⟨r,rfl,⟨_,b,rfl⟩,c⟩
theorem rin_f(l:List UInt8)(w:World)(c:l.length=32):Calls Tryz.prog 133 #[.agg (l.map bval).toArray] w fun e a=>∃r,e=.returned r∧ElF r (fp (leN l))∧Below w.heap.size w a:=by
 refine(rin_el l w c).mono ?_
 rintro e a ⟨r,rfl,b,d⟩
 exact⟨r,rfl,⟨_,b,rfl⟩,d⟩
theorem rinv_f {u:Value} {a:Fp}(w:World)(g:ElF u a):Calls Tryz.prog 122 #[u] w fun e b=>∃r,e=.returned r∧ElF r (fi a)∧Below w.heap.size w b:=by
 obtain⟨x,f,rfl⟩:=g
 refine(rinv_any u x w f).mono ?_
 rintro e b ⟨r,rfl,d,c⟩
 refine⟨r,rfl,⟨_,d,?_⟩,c⟩
 rw[fi_fp]
 congr 2
theorem rout_f {u:Value} {a:Fp}(w:World)(d:ElF u a):Calls Tryz.prog 123 #[u] w fun e b=>e=.returned (.agg ((nbF a).map bval).toArray)∧Below w.heap.size w b:=by
 obtain⟨x,c,rfl⟩:=d
 exact rout_any u x w c
theorem zag {zs:List Int}(h:zs.length=16):(Tryz.prog.info? 124).map (·.size)=some (ints .i64 zs).length:=by rw[zaa,h];exact Tryz.arr124
def ElB(w:World)(c:Nat)(f:Fp):Prop:=∃zs:List Int,zs.length=16∧Blk w c (ints .i64 zs) 124∧ElF (.agg (ints .i64 zs).toArray) f
theorem ElB.ext {w a:World} {c:Nat} {f:Fp}(h:ElB w c f)(d:Ext w a):ElB a c f:=by
 obtain⟨zs,h1,h2,b⟩:=h
 exact⟨zs,h1,zak h2 d,b⟩
theorem ElB.lt {w:World} {c:Nat} {f:Fp}(h:ElB w c f):c<w.heap.size:=by
 obtain⟨zs,h1,h2,a⟩:=h
 exact h2.lt
theorem ElB.grown {w a:World} {c g:Nat} {f:Fp}(h:ElB w c f)(d:w.grownBy a (some g))(e:some g≠some c):ElB a c f:=by
 obtain⟨zs,h1,h2,b⟩:=h
 exact⟨zs,h1,h2.grown d e,b⟩
def PX(P:Pt)(X Y Z T:Fp):Prop:=Z≠0∧X=P.x*Z∧Y=P.y*Z∧T=P.x*P.y*Z
theorem ext_of {P:Pt}:PX P P.x P.y 1 (P.x*P.y):=⟨f_one_ne,(Fin.mul_one _).symm,(Fin.mul_one _).symm,(Fin.mul_one _).symm⟩
theorem ext_zero:PX pzero 0 1 1 0:=by
 refine⟨f_one_ne,?_,?_,?_⟩
 ·exact(Fin.zero_mul _).symm
 ·exact(Fin.mul_one _).symm
 show (0:Fp)=0*1*1
 rw[Fin.zero_mul,Fin.zero_mul]
theorem sum_core {i h z1 g f z2 d p n t:Fp}(l:p*(1+d*(i*g*(h*f)))=i*f+g*h)(j:n*(1 - d*(i*g*(h*f)))=h*f+i*g):
  let a:=(h*z1 - i*z1)*(f*z2 - g*z2)
  let b:=(h*z1+i*z1)*(f*z2+g*z2)
  let c:=i*h*z1*(g*f*z2)*(d+d)
  let e:=z1*z2+z1*z2
  (b - a)=p*(e+c)∧(b+a)=n*(e - c)∧(e - c)=2*(z1*z2)*(1 - d*(i*g*(h*f)))∧(e+c)=2*(z1*z2)*(1+d*(i*g*(h*f))):=by
 intro a b c e
 have k:e+c=2*(z1*z2)*(1+d*(i*g*(h*f))):=by
  show z1*z2+z1*z2+i*h*z1*(g*f*z2)*(d+d)=_
  clear l j
  grind
 have m:e - c=2*(z1*z2)*(1 - d*(i*g*(h*f))):=by
  show z1*z2+z1*z2 - i*h*z1*(g*f*z2)*(d+d)=_
  clear l j k
  grind
 refine⟨?_,?_,m,k⟩
 ·rw[k]
  have r:p*(2*(z1*z2)*(1+d*(i*g*(h*f))))=2*(z1*z2)*(p*(1+d*(i*g*(h*f)))):=by clear l j k m;grind
  rw[r,l]
  show (h*z1+i*z1)*(f*z2+g*z2) - (h*z1 - i*z1)*(f*z2 - g*z2)=_
  clear l j k m r
  grind
 rw[m]
 have r:n*(2*(z1*z2)*(1 - d*(i*g*(h*f))))=2*(z1*z2)*(n*(1 - d*(i*g*(h*f)))):=by clear l j k m;grind
 rw[r,j]
 show (h*z1+i*z1)*(f*z2+g*z2)+(h*z1 - i*z1)*(f*z2 - g*z2)=_
 clear l j k m r
 grind
theorem ext_sum {P Q:Pt} {r p d z q s j A:Fp}(h1:PX P r p d z)(h2:PX Q q s j A):
  let a:=(p - r)*(s - q)
  let b:=(p+r)*(s+q)
  let c:=z*A*(dF+dF)
  let e:=d*j+d*j
  PX (padd P Q) ((b - a)*(e - c)) ((b+a)*(e+c)) ((e - c)*(e+c)) ((b - a)*(b+a)):=by
 obtain⟨k,I,F,E⟩:=h1
 obtain⟨l,J,H,K⟩:=h2
 subst I F E J H K
 intro a b c e
 obtain⟨v,u,C,B⟩:=sum_core (z1:=d) (z2:=j) (t:=0) (padd_x P Q) (padd_y P Q)
 have n:e - c≠0:=by
  show d*j+d*j - P.x*P.y*d*(Q.x*Q.y*j)*(dF+dF)≠0
  rw[C]
  exact zbt (zbt f_two_ne (zbt k l)) (on_minus P.on Q.on)
 have m:e+c≠0:=by
  show d*j+d*j+P.x*P.y*d*(Q.x*Q.y*j)*(dF+dF)≠0
  rw[B]
  exact zbt (zbt f_two_ne (zbt k l)) (on_plus P.on Q.on)
 have G:b - a=(padd P Q).x*(e+c):=v
 have D:b+a=(padd P Q).y*(e - c):=u
 clear v u C B
 unfold PX
 generalize (padd P Q).x=x at*
 generalize (padd P Q).y=y at*
 generalize b - a=h at*
 generalize b+a=i at*
 generalize e - c=f at*
 generalize e+c=g at*
 clear a b c e
 subst G D
 refine⟨zbt n m,?_,?_,?_⟩
 ·clear n m k l;grind
 ·clear n m k l;grind
 clear n m k l;grind
theorem ext_same {P Q:Pt} {k i d u j m c p:Fp}(h1:PX P k i d u)(h2:PX Q j m c p)(g:k*c=j*d)(h:i*c=m*d):P=Q:=by
 obtain⟨f,q,n,-⟩:=h1
 obtain⟨e,s,t,-⟩:=h2
 subst q n s t
 refine Pt.ext' ?_ ?_
 ·apply zes (zbt f e)
  generalize P.x=a at*;generalize Q.x=b at*
  have l:a*(d*c)=a*d*c:=by clear g h f e;grind
  have r:b*(d*c)=b*c*d:=by clear g h f e l;grind
  rw[l,r,g]
 apply zes (zbt f e)
 generalize P.y=a at*;generalize Q.y=b at*
 have l:a*(d*c)=a*d*c:=by clear g h f e;grind
 have r:b*(d*c)=b*c*d:=by clear g h f e l;grind
 rw[l,r,h]
structure ES where
 x:Fp
 y:Fp
 z:Fp
 t:Fp
def ES.is(s:ES)(P:Pt):Prop:=PX P s.x s.y s.z s.t
def ES.sum(p q:ES):ES:=
 let a:=(p.y - p.x)*(q.y - q.x)
 let b:=(p.y+p.x)*(q.y+q.x)
 let c:=p.t*q.t*(dF+dF)
 let e:=p.z*q.z+p.z*q.z
 ⟨(b - a)*(e - c),(b+a)*(e+c),(e - c)*(e+c),(b - a)*(b+a)⟩
theorem ES.is.sum {p q:ES} {P Q:Pt}(b:p.is P)(a:q.is Q):(p.sum q).is (padd P Q):=ext_sum b a
def esZero:ES:=⟨0,1,1,0⟩
theorem esZero_is:esZero.is pzero:=ext_zero
def Pt.es(P:Pt):ES:=⟨P.x,P.y,1,P.x*P.y⟩
theorem Pt.es_is(P:Pt):P.es.is P:=ext_of
def erun(m:Nat)(p:ES)(n:Nat):Nat→ES
 |0=>esZero
 |t+1=>
  let r:=(erun m p n t).sum (erun m p n t)
  if n.testBit (m - 1 - t)then r.sum p else r
theorem erun_is {p:ES} {P:Pt}(b:p.is P) {m n:Nat}(c:n<2^m):∀t,t≤m→(erun m p n t).is (pmul (n>>>(m - t)) P)
 |0,_=>by
  have e:n>>>(m - 0)=0:=by
   rw[Nat.sub_zero,Nat.shiftRight_eq_div_pow]
   exact q160 c
  rw[e]
  exact esZero_is
 |t+1,h=>by
  have d:=erun_is b c t (by omega)
  have i:m - (t+1)=m - 1 - t:=by omega
  have f:m - t=m - 1 - t+1:=by omega
  have g:n>>>(m - 1 - t)=2*(n>>>(m - t))+(n.testBit (m - 1 - t)).toNat:=by
   rw[f,Nat.shiftRight_succ,Nat.testBit_eq_decide_div_mod_eq,←Nat.shiftRight_eq_div_pow]
   generalize n>>>(m - 1 - t)=k
   by_cases h:k%2=1
   ·rw[decide_eq_true h]
    show k=2*(k / 2)+1
    omega
   rw[decide_eq_false h]
   show k=2*(k / 2)+0
   omega
  rw[i,g]
  have a:=d.sum d
  rw[←pmul_two]at a
  show (if n.testBit (m - 1 - t)then _ else _:ES).is _
  cases hb:n.testBit (m - 1 - t)
  ·exact a
  exact a.sum b
theorem erun_full {p:ES} {P:Pt}(b:p.is P) {m n:Nat}(a:n<2^m):(erun m p n m).is (pmul n P):=by
 have:=erun_is b a m (q101 _)
 rwa [Nat.sub_self,Nat.shiftRight_zero]at this
def qB:Nat:=7237005577332262213973186563042994240857116359379907606001950938285454250989
theorem base_order_run:(erun 253 bP.es qB 253).x=0∧(erun 253 bP.es qB 253).y=(erun 253 bP.es qB 253).z:=by decide+kernel
theorem base_order:pmul qB bP=pzero:=by
 have h:=erun_full (P:=bP) (p:=bP.es) bP.es_is (m:=253) (n:=qB) (by decide+kernel)
 obtain⟨b,a⟩:=base_order_run
 refine ext_same h ext_zero ?_ ?_
 ·rw[b,Fin.zero_mul,Fin.zero_mul]
 rw[a,Fin.mul_one,Fin.one_mul]
theorem dy_ne(y:Fp):dF*(y*y)+1≠0:=by
 intro h
 have a:=iF_sq
 have e:iF*iF=dF*(y*y):=by
  rw[a]
  exact lin (-1) h (by clear h a;grind)
 have b:=d_ratio e
 rw[b,Fin.mul_zero,Fin.mul_zero,Fin.zero_add]at h
 exact f_one_ne h
def rad(y:Fp):Fp:=(y*y - 1)*fi (dF*(y*y)+1)
theorem on_rad {x y:Fp}:On x y↔x*x=rad y:=by
 have b:=dy_ne y
 have a:=f_inv b
 unfold On rad
 generalize dF=d at*
 generalize e:fi (d*(y*y)+1)=c at*
 constructor
 ·intro h
  apply zes b
  have r:(y*y - 1)*c*(d*(y*y)+1)=(y*y - 1)*((d*(y*y)+1)*c):=by clear h a e b;grind
  rw[r,a,Fin.mul_one]
  exact lin (-1) h (by clear h a e b r;grind)
 intro h
 have h2:x*x*(d*(y*y)+1)=y*y - 1:=by
  rw[h]
  have r:(y*y - 1)*c*(d*(y*y)+1)=(y*y - 1)*((d*(y*y)+1)*c):=by clear h a e b;grind
  rw[r,a,Fin.mul_one]
 exact lin (-1) h2 (by clear h h2 a e b;grind)
theorem val_zero {x:Fp}:x.val=0↔x=0:=by
 constructor
 ·intro h
  exact Fin.ext h
 intro h
 rw[h]
 rfl
theorem neg_val {x:Fp}(h:x≠0):(-x).val=pN - x.val:=by
 have a:0<x.val:=Nat.pos_of_ne_zero (fun e=>h (val_zero.1 e))
 have b:=x.isLt
 have e:(-x)=fp (-(x.val:Int)):=by rw[fp_neg,fp_self]
 rw[e,fp_val,←pN_cast]
 have:(-(x.val:Int))%(pN:Int)=((pN - x.val:Nat):Int):=by
  rw[←Int.add_emod_right,q159 (by omega) (by omega)]
  omega
 rw[this]
 rfl
theorem pN_odd:pN%2=1:=by decide+kernel
theorem neg_odd {x:Fp}(h:x≠0):(-x).val%2≠x.val%2:=by
 rw[neg_val h]
 have:=x.isLt
 have:=pN_odd
 omega
theorem f_sq_eq {x z:Fp}(h:x*x=z*z):x=z∨x=-z:=by
 have e:(x - z)*(x+z)=0:=by
  have:(x - z)*(x+z)=x*x - z*z:=by clear h;grind
  rw[this,h,f_self]
 rcases f_dom e with e|e
 ·exact Or.inl (f_sub e)
 exact Or.inr (lin 1 e (by clear h e;grind))
def enc(P:Pt):Nat:=P.y.val+2^255*(P.x.val%2)
theorem pN_lt:pN<2^255:=by decide+kernel
theorem enc_y(P:Pt):enc P%2^255=P.y.val:=by
 have:=P.y.isLt
 have:=pN_lt
 unfold enc
 omega
theorem enc_x(P:Pt):enc P / 2^255=P.x.val%2:=by
 have:=P.y.isLt
 have:=pN_lt
 unfold enc
 omega
theorem enc_inj {P Q:Pt}(h:enc P=enc Q):P=Q:=by
 have a:P.y=Q.y:=Fin.ext (by rw[←enc_y P,←enc_y Q,h])
 have b:P.x.val%2=Q.x.val%2:=by rw[←enc_x P,←enc_x Q,h]
 have h1:=on_rad.1 P.on
 have h2:=on_rad.1 Q.on
 rw[a,←h2]at h1
 refine Pt.ext' ?_ a
 rcases f_sq_eq h1 with e|e
 ·exact e
 by_cases h0:Q.x=0
 ·rw[e,h0]
  decide+kernel
 rw[e]at b
 exact absurd b (neg_odd h0)
def pickX(x:Fp)(b:Nat):Fp:=if x.val%2=b then x else -x
theorem pickX_sq(x:Fp)(b:Nat):pickX x b*pickX x b=x*x:=by
 unfold pickX
 split
 ·rfl
 grind
theorem pickX_odd {x:Fp} {b:Nat}(c:b<2)(h:¬(x=0∧b=1)):(pickX x b).val%2=b:=by
 unfold pickX
 by_cases a:x.val%2=b
 ·rw[if_pos a]
  exact a
 rw[if_neg a]
 have h0:x≠0:=fun e=>by
  subst e
  have:(0:Fp).val=0:=rfl
  rw[this]at a
  exact h ⟨rfl,by omega⟩
 have:=neg_odd h0
 omega
def readP(x y:Fp)(b:Nat)(h:x*x=rad y):Pt:=⟨pickX x b,y,on_rad.2 ((pickX_sq x b).trans h)⟩
theorem readP_enc {x y:Fp} {b:Nat}(h:x*x=rad y)(a:b<2)(h0:¬(x=0∧b=1)):enc (readP x y b h)=y.val+2^255*b:=by
 show y.val+2^255*((pickX x b).val%2)=_
 rw[pickX_odd a h0]
theorem no_point {y:Fp} {b:Nat}(g:b<2)(h:∀x,x*x=rad y→x=0∧b=1)(P:Pt):enc P≠y.val+2^255*b:=by
 intro c
 have e:P.y=y:=Fin.ext (by
  rw[←enc_y P,c]
  have:=y.isLt
  have:=pN_lt
  omega)
 have a:P.x.val%2=b:=by
  rw[←enc_x P,c]
  have:=y.isLt
  have:=pN_lt
  omega
 obtain⟨f,d⟩:=h P.x (e▸on_rad.1 P.on)
 rw[f,d]at a
 exact absurd a (by decide)
theorem enc_lt(P:Pt):enc P<2^256:=by
 have:=P.y.isLt
 have:=pN_lt
 unfold enc
 omega
section
section
variable {P:Program} {ops:Array Oper} {Q:Exit→Act→World→Prop}
theorem zdv {rest:List Oper} {o:Oper} {a:Act} {w:World}(p:Region.wanted o (yielded ops a.tmps)=true)(b:BinOp)(ty q e:TypeId)(x y:Operand)(n:Nat)(i:TypeInfo)(d f:List UInt8)(r:Bool)(g:o.op=.binOp b ty x y q)
  (c:b=.eql∧decide (d=f)=r∨b=.neq∧decide (d=f)=!r)
  (z:P.underlying ty=some (.array n e)) (t:P.underlying e=some (.int .u8)) (s:P.info? e=some i) (v:P.cellsOf e=1) (j:P.eqGuardType P.depth ty=false)
  (k:a.eval x=.agg (d.map bval).toArray) (l:a.eval y=.agg (f.map bval).toArray) (u:d.length=n) (m:f.length=n)
  (next:wpList P ops Q rest (a.put o.dst (.bool r)) w):wpList P ops Q (o::rest) a w:=by
 refine wpList_step fun K h=>?_
 rw[if_pos p]
 have h1:=run_equal_bytes z t s v d f u m w
 unfold Oper.wp execOp
 rcases c with⟨rfl,c⟩|⟨rfl,c⟩
 ·rw[c]at h1
  simp only[g,k,l]
  simp[eqGuard,j,binOp,h1]
  exact h _ _ next
 rw[c]at h1
 simp only[g,k,l]
 simp[eqGuard,j,binOp,h1]
 exact h _ _ next
end
end
section
section
variable {P:Program} {ops:Array Oper} {Q:Exit→Act→World→Prop}
theorem wpList_load_w {rest:List Oper} {o:Oper} {a:Act} {w:World}(h:Region.wanted o (yielded ops a.tmps)=true)(ty:TypeId)(x:Operand)(d:o.op=.load ty x)
  (c:Nat) (j:a.eval x=.pointer (some ⟨c,0,none⟩)) (t:TypeId) (b:List Value) (n:Nat) (e:TypeId) (f:Blk w c b t)
  (k:P.underlying ty=some (.array n e)) (i:(P.info? ty).map (·.size)=some b.length)
  (next:wpList P ops Q rest (a.put o.dst (.agg b.toArray)) w):wpList P ops Q (o::rest) a w:=by
 refine wpList_step fun K g=>?_
 rw[if_pos h]
 exact wp_load_mid ty x d c 0 j b _ f.range k rfl i (g _ _ next)
end
end
section
section
variable {P:Program} {w w':World} {v:Value} {vs:List Value}
theorem own_made(w:World)(c:Array Value)(base:Nat)(e:TypeId)(n:Nat)(l:List Value)(d:c.toList=l)(b:l.length=n)(a:n≤maxLen)(f:base≤w.heap.size):(w.alloc (.cells c e)).ownsRow base e 1 (.slice (some ⟨w.heap.size,0,none⟩) n n) n l:=by
 subst b;subst d
 refine⟨by simp,Or.inr ⟨w.heap.size,c.toList.length,c,rfl,f,heap_alloc_new w _,q101 _,a,by simp,by rw[q148];exact q108 (q101 _)⟩⟩
theorem zbf {a b d:World} {base:Nat} {e:TypeId} {n:Nat} {x:Value} {j:List Value}(h:Ext a b)(f:b.ownsRow base e 1 x n j)(i:a.heap.size≤base)(k:b.grownBy d x.ownBlock):Ext a d:=
 Below.grown h k h.size (fun r c=>by
  obtain⟨_,h1|⟨g,m,l,rfl,h2,_⟩⟩:=f
  ·obtain⟨rfl,_⟩:=h1
   cases c
  cases c
  exact q119 i h2)
end
end
section
section
variable {P:Program} {ops:Array Oper} {Q:Exit→Act→World→Prop} {md:Region.Mode} {t:Nat} {C:World→Prop} {D:Act→Prop}
theorem run_alloc_zero {o:Oper} {a:Act} {ty:TypeId} {zs:List Value}(b:o.op=.alloc ty)(c:∀w,(zeroValue ty).run P w=.ok (.agg zs.toArray) w)(w:World):
  (execOp a.eval o).run P w=.ok (.value (.pointer (some ⟨w.heap.size,0,none⟩))) (w.alloc (.cells zs.toArray ty)):=by
 unfold execOp
 simp[b,Instr.alloc,c,newVar,newRow,Value.cells]
end
end
section
section
variable {P:Program} {ops:Array Oper} {Q:Exit→Act→World→Prop} {md:Region.Mode} {t:Nat}
theorem zbl {o:Oper} {a:Act} {w:World} {K:Act→World→Prop}(d:Option Nat)(t e:TypeId)(len:Nat)(c:Array (Nat×Operand))(m:o.dst=d)(g:o.op=.buildSlice t len c)
  (cells:Array Value) (b:TypeInfo) (z:Value)
  (p:P.underlying t=some (.slice e)) (j:P.info? e=some b) (k:b.zero=some z) (l:¬len*b.size>2^24) (f:¬len*b.size=0)
  (n:Instr.fill (fun i=>some (i*b.size,b.size)) ((Array.range (len*b.size)).map (z.cells[·%z.cells.size]!)) (c.map fun (i,x)=>(i,a.eval x)).toList=some cells)
  (h:K (a.put d (.slice (some ⟨w.heap.size,0,none⟩) len len)) (w.alloc (.cells cells e))):o.wp P a w K Q:=by
 subst m
 exact wp_buildSlice t e len c g cells b z p j k l f n h
end
end
section
section
variable {P:Program} {ops:Array Oper} {Q:Exit→Act→World→Prop}
theorem quietAt_ext {o:Oper} {a:Act} {w b:World} {v:Value}(d:Ext w b)(h:o.quietAt P a (Ext b) b v):o.quietAt P a (Ext w) b v:=by
 unfold Oper.quietAt at*
 generalize (execOp a.eval o).run P b=r at*
 cases r with
 |halt x w2=>exact h.elim
 |ok n w2=>
  cases n<;>simp only[Oper.quietUpon]at h⊢
  case value u=>exact h
  case skip=>exact h
  case enter f args=>exact⟨h.1,h.2.mono fun e g c=>⟨c.1,d.trans c.2⟩⟩
theorem quiet_of_det {w:World} {D:Act→Prop}:∀(l:List Oper) (a:Act),wpDet P ops (Ext w) D l a→wpQuiet P ops (Ext w) D l a
 |[],_,h=>h
 |o::l,a,h=>by
  unfold wpQuiet
  split
  ·rename_i b
   obtain⟨v,h1,h2⟩:=h.1 b
   exact⟨v,fun d c=>quietAt_ext c (h1 d c),quiet_of_det l _ h2⟩
  rename_i b
  exact quiet_of_det l _ (h.2 (by simpa using b))
theorem zcv {id:Nat} {a:Act} {w:World}(d:P.follows .mixedOrders=true)(c:Region.lexB .any ops=true)
  (h:wpDet P ops (Ext w) (fun a'=>∀b,Ext w b→Q .normal a' b) ops.toList a):(Code.region id ops true).wp P Q a w:=
 wp_region_quiet (C:=Ext w) d c (Ext.drew w) (quiet_of_det _ _ h)
end
end
section
section
variable {P:Program} {ops:Array Oper} {S:World→Prop}
theorem zaz {o:Oper} {a:Act}(v:Value)(b:Region.wanted o (yielded ops a.tmps)=true)(h:∀w,S w→(execOp a.eval o).run P w=.ok (.value v) w):YieldsIf P ops S o v a:=Or.inl ⟨b,h⟩
theorem zbe {o:Oper} {a:Act}(x:Operand)(v:Value)(d:Region.wanted o (yielded ops a.tmps)=true)(c:o.op=.move x)(b:a.eval x=v):YieldsIf P ops S o v a:=
 zaz v d (fun w _=>by unfold execOp;simp only[c,b,Sem.run_pure])
theorem yi_assign {o:Oper} {a:Act}(x:Operand)(v:Value)(d:Region.wanted o (yielded ops a.tmps)=true)(c:o.op=.assign x)(b:a.eval x=v):YieldsIf P ops S o v a:=
 zaz v d (fun w _=>by unfold execOp;simp only[c,b,Sem.run_pure])
theorem zbp {o:Oper} {a:Act}(t:TypeId)(x:Operand)(d e:Option Operand)(b v:Value)(f c:Option Value)(j:Region.wanted o (yielded ops a.tmps)=true)(g:o.op=.slice t x d e none)(k:a.eval x=b)(l:d.map a.eval=f)(i:e.map a.eval=c)
  (h:∀w,(Instr.sliceAt t b f c none).run P w=.ok v w):YieldsIf P ops S o v a:=
 zaz v j (fun w _=>by
  unfold execOp
  simp only[g,k,l,i,Option.map_none,Sem.run_bind,h,Result.andThen_ok,Sem.run_pure])
theorem zan {o:Oper} {a:Act} {w:World} {K:Act→World→Prop} {Q:Exit→Act→World→Prop} {E:Prop}(b:Region.wanted o (yielded ops a.tmps)=true)(h:Oper.wp P o a w K Q):if Region.wanted o (yielded ops a.tmps)=true then Oper.wp P o a w K Q else E:=by
 rw[if_pos b]
 exact h
end
end
section
section
variable {P:Program} {ops:Array Oper} {S:World→Prop}
theorem yi_and {o:Oper} {a:Act}(k:IntKind)(ty e:TypeId)(x y:Operand)(m n r:Int)(d:bits .and k m n=r)(c:Region.wanted o (yielded ops a.tmps)=true)(b:o.op=.binOp .and ty x y e)(f:a.eval x=.int k m)(g:a.eval y=.int k n):YieldsIf P ops S o (.int k r) a:=
 zaz _ c (fun w _=>by rw[←d];unfold execOp bits;simp[b,f,g,eqGuard,binOp,Op.intBits])
theorem yi_iconv {o:Oper} {a:Act}(c d:TypeId)(x:Operand)(k b:IntKind)(n r:Int)(g:(P.underlying c).isSome=true)(l:P.underlying d=some (.int b))(i:b.wrap n=r)(f:Region.wanted o (yielded ops a.tmps)=true)(e:o.op=.convert c d x)(j:a.eval x=.int k n):YieldsIf P ops S o (.int b r) a:=
 zaz _ f (fun w _=>by
  obtain⟨u,m⟩:=Option.isSome_iff_exists.1 g
  have h:(convert c d (.int k n)).run P w=.ok (.int b r) w:=by
   simp[convert,run_underlying m,run_underlying l,Conv.intToInt,i]
  unfold execOp
  simp only[e,j,Sem.run_bind,h,Result.andThen_ok,Sem.run_pure])
theorem wp_alloc_d {o:Oper} {a:Act} {w:World} {K:Act→World→Prop} {Q:Exit→Act→World→Prop}(d:Option Nat)(ty:TypeId)(zs:List Value)(b:o.dst=d)(c:o.op=.alloc ty)(e:∀w,(zeroValue ty).run P w=.ok (.agg zs.toArray) w)
  (h:K (a.put d (.pointer (some ⟨w.heap.size,0,none⟩))) (w.alloc (.cells zs.toArray ty))):o.wp P a w K Q:=by
 subst b
 unfold Oper.wp
 rw[run_alloc_zero c e]
 exact h
theorem wp_conv_d {o:Oper} {a:Act} {w:World} {K:Act→World→Prop} {Q:Exit→Act→World→Prop}(d:Option Nat)(s t:TypeId)(x:Operand)(c v:Value)(b:World)(i:o.dst=d)(e:o.op=.convert s t x)(g:a.eval x=c)(f:(convert s t c).run P w=.ok v b)
  (h:K (a.put d v) b):o.wp P a w K Q:=by
 subst i
 unfold Oper.wp execOp
 simp only[e,g,Sem.run_bind,f,Result.andThen_ok,Sem.run_pure]
 exact h
theorem yi_neqB {o:Oper} {a:Act}(ty k e:TypeId)(x y:Operand)(n:Nat)(i:TypeInfo)(b c:List UInt8)(r:Bool)(g:Region.wanted o (yielded ops a.tmps)=true)(d:o.op=.binOp .neq ty x y k)(f:decide (b=c)=!r)
  (u:P.underlying ty=some (.array n e)) (p:P.underlying e=some (.int .u8)) (l:P.info? e=some i) (q:P.cellsOf e=1) (t:P.eqGuardType P.depth ty=false)
  (m:a.eval x=.agg (b.map bval).toArray) (h:a.eval y=.agg (c.map bval).toArray) (s:b.length=n) (j:c.length=n):YieldsIf P ops S o (.bool r) a:=
 zaz _ g (fun w _=>by
  have h1:=run_equal_bytes u p l q b c s j w
  rw[f]at h1
  unfold execOp
  simp[d,m,h,eqGuard,t,binOp,h1])
theorem yi_build {o:Oper} {a:Act}(ty:TypeId)(c:Array (Nat×Operand))(b:Array (Nat×Value))(v:Value)(e:∀w,(Instr.build ty b).run P w=.ok v w)(f:Region.wanted o (yielded ops a.tmps)=true)(d:o.op=.build ty c)(g:c.map (fun (i,x)=>(i,a.eval x))=b):YieldsIf P ops S o v a:=
 zaz _ f (fun w _=>by
  subst g
  unfold execOp
  simp only[d,Sem.run_bind,e,Result.andThen_ok,Sem.run_pure])
end
end
theorem fold_lay(off:Nat)(post:List Value):∀(new mid pre:List Value) (k:Nat),new.length=mid.length→pre.length=off+k→
  (new.zipIdx k).foldl (fun (cs:Array Value) (x:Value×Nat)=>cs.setIfInBounds (off+x.2) x.1) (pre++(mid++post)).toArray=(pre++(new++post)).toArray
 |[],mid,pre,k,h,hp=>by
  obtain rfl:mid=[]:=q154 (by simpa using h.symm)
  rfl
 |c::new,[],pre,k,h,hp=>by simp at h
 |c::new,m::mid,pre,k,h,hp=>by
  rw[List.zipIdx_cons,List.foldl_cons]
  have e:(pre++(m::mid++post)).toArray.setIfInBounds (off+k) c=((pre++[c])++(mid++post)).toArray:=by
   rw[List.setIfInBounds_toArray,←hp,q161 _ _ (q101 _),Nat.sub_self]
   simp
  show (new.zipIdx (k+1)).foldl _ ((pre++(m::mid++post)).toArray.setIfInBounds (off+k) c)=_
  rw[e,fold_lay off post new mid (pre++[c]) (k+1) (by simpa using h) (by simp[hp];omega)]
  simp
theorem fill_lay {place:Nat→Option (Nat×Nat)} {i off n:Nat} {pre mid post new:List Value} {rest:List (Nat×Value)}(d:place i=some (off,n))(b:pre.length=off)(a:mid.length=n)(c:new.length=n):
  Instr.fill place (pre++(mid++post)).toArray ((i,.agg new.toArray)::rest)=Instr.fill place (pre++(new++post)).toArray rest:=by
 have e:(new.toArray.zipIdx.foldl (fun (cs:Array Value) (x:Value×Nat)=>cs.setIfInBounds (off+x.2) x.1) (pre++(mid++post)).toArray)=(pre++(new++post)).toArray:=by
  rw[←fold_lay off post new mid pre 0 (by rw[c,a]) (by rw[b];rfl),←Array.foldl_toList,Array.toList_zipIdx]
 rw[Instr.fill,d]
 have h1:(Value.cells (.agg new.toArray)).size=n:=by simpa[Value.cells]using c
 have h2:¬(off+n>(pre++(mid++post)).toArray.size):=by simp[b,a]
 simp only[h1]
 rw[if_neg (by simp[h2];simp at h2;omega)]
 exact congrArg (fun z=>Instr.fill place z rest) e
theorem fill_four {place:Nat→Option (Nat×Nat)}(u:place 0=some (0,16))(r:place 1=some (16,16))(s:place 2=some (32,16))(A:place 3=some (48,16))(zero:Array Value)(z:zero.size=64) {a b c d:List Value}(g:a.length=16)(i:b.length=16)(k:c.length=16)(v:d.length=16):
  Instr.fill place zero [(0,.agg a.toArray),(1,.agg b.toArray),(2,.agg c.toArray),(3,.agg d.toArray)]=some (a++(b++(c++d))).toArray:=by
 obtain⟨l,f⟩:∃l:List Value,zero=l.toArray∧l.length=64:=⟨zero.toList,by simp,by simpa using z⟩
 obtain⟨rfl,f⟩:=f
 have m:l=[]++(l.take 16++((l.drop 16).take 16++((l.drop 32).take 16++l.drop 48))):=by
  rw[q115]
  have x:(l.drop 32).take 16++l.drop 48=l.drop 32:=by rw[show l.drop 48=(l.drop 32).drop 16 by rw[q162],q130]
  have h2:(l.drop 16).take 16++l.drop 32=l.drop 16:=by rw[show l.drop 32=(l.drop 16).drop 16 by rw[q162],q130]
  rw[x,h2,q130]
 have t:(l.take 16).length=16:=by simp[f]
 have q:((l.drop 16).take 16).length=16:=by simp[f]
 have y:((l.drop 32).take 16).length=16:=by simp[f]
 have p:(l.drop 48).length=16:=by simp[f]
 generalize l.take 16=B at*
 generalize (l.drop 16).take 16=j at*
 generalize (l.drop 32).take 16=h at*
 generalize l.drop 48=e at*
 rw[m,fill_lay (off:=0) (n:=16) u rfl t g]
 rw[show ([]:List Value)++(a++(j++(h++e)))=a++(j++(h++e))from rfl,fill_lay (off:=16) (n:=16) r g q i]
 rw[show a++(b++(h++e))=(a++b)++(h++e) by simp,fill_lay (off:=32) (n:=16) s (by simp[g,i]) y k]
 rw[show (a++b)++(c++e)=(a++b++c)++(e++[]) by simp,fill_lay (off:=48) (n:=16) A (by simp[g,i,k]) p v]
 rw[Instr.fill]
 simp
theorem rng_mid {w:World} {c:Nat} {t:TypeId} {pre mid post:List Value}(h:Blk w c (pre++(mid++post)) t) {o:Nat}(d:pre.length=o):w.rangeAt c o mid:=fun j v a=>by
 subst d
 have e:j<mid.length:=by
  rcases q114 j mid.length with b|b
  ·exact b
  rw[List.getElem?_eq_none b]at a;cases a
 rw[h.cell,List.getElem?_append_right (by omega),Nat.add_sub_cancel_left,List.getElem?_append_left e]
 exact a
theorem boxes_one(w:World)(a:List Value)(T:TypeId):Blk (w.alloc (.cells a.toArray T)) w.heap.size a T∧Ext w (w.alloc (.cells a.toArray T)):=⟨Blk.made w a T,Ext.alloc w _⟩
theorem zch {P:Program} {w:World} {b:Array Oper} {rest:List Oper} {o:Oper} {a:Act} {Q:Exit→Act→World→Prop}(k:o.guard=none)(ty:TypeId)(d:Array (Nat×Operand))(e:o.op=.build ty d)
  (c:Array (Nat×Value)) (j:d.map (fun (i,x)=>(i,a.eval x))=c) (v:Value) (g:(Instr.build ty c).run P w=.ok v w) (h:wpList P b Q rest (a.put o.dst v) w):wpList P b Q (o::rest) a w:=
 wpList_plain k fun _ f=>by
  subst j
  unfold Oper.wp execOp
  simp only[e,Sem.run_bind,g,Result.andThen_ok,Sem.run_pure]
  exact f _ _ h
theorem glob_ext {w a:World} {b:Nat} {v:Value} {c:List Value}(h:w.rangeAt b 0 (v::c))(d:Ext w a):a.rangeAt b 0 (v::c):=by
 have h0:=h 0 v rfl
 have g:b<w.heap.size:=by
  apply Classical.byContradiction
  intro i
  have e:w.heap[b]? =none:=by rw[Array.getElem?_eq_none];omega
  simp[World.cell?,e]at h0
 intro j u f
 have h1:=h j u f
 have e:=d.block b g
 simpa[World.cell?,e]using h1
def Far(c:Nat)(w w':World):Prop:=∃wx,Ext w wx∧(w'=wx∨wx.grownBy w' (some c))
theorem zap {c:Nat} {w a:World}(h:Ext w a):Far c w a:=⟨a,h,Or.inl rfl⟩
theorem zby {c:Nat} {w a b:World}(h:Ext w a)(g:a.grownBy b (some c)):Far c w b:=⟨a,h,Or.inr g⟩
theorem zat {c a:Nat} {w b:World} {d:List Value} {t:TypeId}(H:Blk w a d t)(e:c≠a)(h:Far c w b):b.rangeAt a 0 d:=by
 obtain⟨f,h1,h2⟩:=h
 rcases h2 with h2|h2
 ·rw[h2]
  exact zax H h1
 exact((zak H h1).grown h2 (by simp;omega)).range
def ElL(zs:List Int)(f:Fp):Prop:=zs.length=16∧ElF (.agg (ints .i64 zs).toArray) f
theorem ElF.toL {v:Value} {f:Fp}(h:ElF v f):∃zs:List Int,v=.agg (ints .i64 zs).toArray∧ElL zs f:=by
 obtain⟨zs,rfl,a⟩:=h.form
 exact⟨zs,rfl,a,h⟩
theorem ElL.el {zs:List Int} {f:Fp}(h:ElL zs f):ElF (.agg (ints .i64 zs).toArray) f:=h.2
theorem ElL.len {zs:List Int} {f:Fp}(h:ElL zs f):zs.length=16:=h.1
def ptC(a b c d:List Int):List Value:=ints .i64 a++(ints .i64 b++(ints .i64 c++ints .i64 d))
def PtZ(zx zy zz zt:List Int)(s:ES):Prop:=ElL zx s.x∧ElL zy s.y∧ElL zz s.z∧ElL zt s.t
theorem zbq {a b c d:List Int} {s:ES}(h:PtZ a b c d s):(ptC a b c d).length=64:=by
 obtain⟨h1,h2,e,f⟩:=h
 simp[ptC,zaa,h1.1,h2.1,e.1,f.1]
theorem zef(a b c d:List Int):∀v∈ptC a b c d,v.oneCell'=true:=by
 intro v e
 simp only[ptC,List.mem_append]at e
 rcases e with h|h|h|h
 ·exact zah _ _ v h
 ·exact zah _ _ v h
 ·exact zah _ _ v h
 exact zah _ _ v h
def PtV(v:Value)(s:ES):Prop:=∃a b c d,v=.agg (ptC a b c d).toArray∧PtZ a b c d s
def PtB(w:World)(g:Nat)(s:ES):Prop:=∃a b c d,Blk w g (ptC a b c d) 126∧PtZ a b c d s
theorem PtB.ext {w e:World} {g:Nat} {s:ES}(h:PtB w g s)(f:Ext w e):PtB e g s:=by
 obtain⟨a,b,c,d,h1,h2⟩:=h
 exact⟨a,b,c,d,zak h1 f,h2⟩
theorem PtB.grown {w e:World} {g r:Nat} {s:ES}(h:PtB w g s)(f:w.grownBy e (some r))(i:some r≠some g):PtB e g s:=by
 obtain⟨a,b,c,d,h1,h2⟩:=h
 exact⟨a,b,c,d,h1.grown f i,h2⟩
theorem zcm {a b c d:List Int} {s:ES}(h:PtZ a b c d s):(Tryz.prog.info? 126).map (·.size)=some (ptC a b c d).length:=by
 rw[zbq h]
 kernel_rfl
theorem rng_x {w:World} {g:Nat} {t:TypeId} {a b c d:List Int}(h:Blk w g (ptC a b c d) t):w.rangeAt g 0 (ints .i64 a):=rng_mid (pre:=[]) h rfl
theorem rng_y {w:World} {g:Nat} {t:TypeId} {a b c d:List Int}(h:Blk w g (ptC a b c d) t)(e:a.length=16):w.rangeAt g 16 (ints .i64 b):=rng_mid (pre:=ints .i64 a) h (by rw[zaa,e])
theorem rng_z {w:World} {g:Nat} {t:TypeId} {a b c d:List Int}(h:Blk w g (ptC a b c d) t)(e:a.length=16)(f:b.length=16):w.rangeAt g 32 (ints .i64 c):=
 rng_mid (pre:=ints .i64 a++ints .i64 b) (mid:=ints .i64 c) (post:=ints .i64 d) (by simpa[ptC]using h) (by simp[zaa,e,f])
theorem rng_t {w:World} {g:Nat} {t:TypeId} {a b c d:List Int}(h:Blk w g (ptC a b c d) t)(e:a.length=16)(i:b.length=16)(f:c.length=16):w.rangeAt g 48 (ints .i64 d):=
 rng_mid (pre:=ints .i64 a++ints .i64 b++ints .i64 c) (mid:=ints .i64 d) (post:=[]) (by simpa[ptC]using h) (by simp[zaa,e,i,f])
theorem build_pt {a b c d:List Int} {s:ES}(h:PtZ a b c d s)(w:World):
  (Instr.build 126 #[(0,.agg (ints .i64 a).toArray),(1,.agg (ints .i64 b).toArray),(2,.agg (ints .i64 c).toArray),(3,.agg (ints .i64 d).toArray)]).run Tryz.prog w=.ok (.agg (ptC a b c d).toArray) w:=by
 obtain⟨h1,h2,f,g⟩:=h
 refine run_build w _ _ _ ?_
 have e:=fill_four (place:=fun i=>(#[(0,16),(16,16),(32,16),(48,16)]:Array (Nat×Nat))[i]?) rfl rfl rfl rfl (ints .i64 (List.replicate 64 0)).toArray (by simp[zaa]) (a:=ints .i64 a) (b:=ints .i64 b) (c:=ints .i64 c) (d:=ints .i64 d) (by rw[zaa,h1.1]) (by rw[zaa,h2.1]) (by rw[zaa,f.1]) (by rw[zaa,g.1])
 refine Eq.trans ?_ e
 kernel_rfl
def dL:List Int:=[30883,4953,19914,30187,55467,16705,2637,112,59544,30585,16505,36039,65139,11119,27886,20995]
def bxL:List Int:=[54554,36645,11616,51542,42930,38181,51040,26924,56412,64982,57905,49316,21502,52590,14035,8553]
def byL:List Int:=[26200,26214,26214,26214,26214,26214,26214,26214,26214,26214,26214,26214,26214,26214,26214,26214]
def GlobD(w:World):Prop:=w.rangeAt 5 0 (ints .i64 dL)
def GlobX(w:World):Prop:=w.rangeAt 2 0 (ints .i64 bxL)
def GlobY(w:World):Prop:=w.rangeAt 3 0 (ints .i64 byL)
theorem GlobD.ext {w a:World}(h:GlobD w)(b:Ext w a):GlobD a:=glob_ext h b
theorem GlobX.ext {w a:World}(h:GlobX w)(b:Ext w a):GlobX a:=glob_ext h b
theorem GlobY.ext {w a:World}(h:GlobY w)(b:Ext w a):GlobY a:=glob_ext h b
theorem var_el {l:List Int} {x:Int}(a:l.length=16)(b:∀z∈l,-131072≤z∧z≤131072)(h:pP∣dV l - x):ElL l (fp x):=
 ⟨a,dV l,⟨l,rfl,a,b,0,by rw[Int.mul_zero,Int.add_zero]⟩,fp_eq.2 h⟩
theorem d_el:ElL dL dF:=var_el rfl (by decide) (by decide+kernel)
theorem bx_el:ElL bxL (fp bX):=var_el rfl (by decide) (by decide+kernel)
theorem by_el:ElL byL (fp bY):=var_el rfl (by decide) (by decide+kernel)
def gV(B:Int):List Int→Int
 |[]=>0
 |z::r=>z+B*gV B r
theorem gV_set(B:Int):∀(zs:List Int) (i:Nat) (z:Int),i<zs.length→gV B (zs.set i z)=gV B zs+(z - zs.getD i 0)*B^i
 |[],i,z,h=>by simp at h
 |a::r,0,z,h=>by simp[gV];omega
 |a::r,i+1,z,h=>by
  have:=gV_set B r i z (by simpa using h)
  simp only[q152,gV,this,List.getD_cons_succ,q124]
  grind
theorem gV_append(B:Int):∀(a b:List Int),gV B (a++b)=gV B a+B^a.length*gV B b
 |[],b=>by simp[gV]
 |z::r,b=>by
  simp only[List.cons_append,gV,gV_append B r b,q106,q124]
  grind
theorem gV_cut(B:Int)(zs:List Int)(d:Nat)(h:d≤zs.length):gV B zs=gV B (zs.take d)+B^d*gV B (zs.drop d):=by
 have:=gV_append B (zs.take d) (zs.drop d)
 rw[q130,q107,q140 h]at this
 exact this
theorem zcb(B:Int)(zs:List Int)(k:Nat)(h:k<zs.length):gV B (zs.take (k+1))=gV B (zs.take k)+zs.getD k 0*B^k:=by
 rw[q143 h,gV_append,q107,q140 (by omega)]
 simp only[gV,List.getD,List.getElem?_eq_getElem h,Option.getD_some]
 grind
theorem gV_zeros(B:Int):∀(n:Nat),gV B (List.replicate n 0)=0
 |0=>rfl
 |n+1=>by simp[List.replicate_succ,gV,gV_zeros B n]
theorem gV_range {B:Int}(c:0<B):∀{zs:List Int},(∀i,i<zs.length→0≤zs.getD i 0∧zs.getD i 0<B)→0≤gV B zs∧gV B zs<B^zs.length
 |[],_=>by simp[gV]
 |z::r,h=>by
  have h0:0≤z∧z<B:=h 0 (by simp)
  have h1:=gV_range c (zs:=r) (fun i b=>by have:=h (i+1) (by simpa using b);simpa using this)
  obtain⟨a,e⟩:=h1
  have f:0≤B*gV B r:=q155 (by omega) a
  have d:B*(gV B r+1)≤B*B^r.length:=Int.mul_le_mul_of_nonneg_left (by omega) (by omega)
  rw[Int.mul_add,Int.mul_one]at d
  simp only[gV,q106,q124]
  rw[Int.mul_comm (B^r.length) B]
  omega
theorem gV_inj {B:Int}(k:0<B):∀{a b:List Int},a.length=b.length→(∀i,i<a.length→0≤a.getD i 0∧a.getD i 0<B)→(∀i,i<b.length→0≤b.getD i 0∧b.getD i 0<B)→gV B a=gV B b→a=b
 |[],[],_,_,_,_=>rfl
 |[],_::_,h,_,_,_=>by simp at h
 |_::_,[],h,_,_,_=>by simp at h
 |x::r,y::s,hl,h1,h2,he=>by
  have e:0≤x∧x<B:=h1 0 (by simp)
  have d:0≤y∧y<B:=h2 0 (by simp)
  simp only[gV]at he
  have l:(x+B*gV B r)%B=x:=by rw[Int.add_mul_emod_self_left,q159 e.1 e.2]
  have f:(y+B*gV B s)%B=y:=by rw[Int.add_mul_emod_self_left,q159 d.1 d.2]
  have j:x=y:=by rw[←l,←f,he]
  subst j
  have g:gV B r=gV B s:=Int.eq_of_mul_eq_mul_left (by omega:B≠0) (by omega)
  rw[gV_inj k (by simpa using hl) (fun i c=>by have:=h1 (i+1) (by simpa using c);simpa using this) (fun i c=>by have:=h2 (i+1) (by simpa using c);simpa using this) g]
theorem getD_eq {zs:List Int} {i:Nat}(h:i<zs.length):zs.getD i 0=zs[i]:=by simp[List.getD,h]
theorem zeq {zs:List Int} {i:Nat}(h:zs.length≤i):zs.getD i 0=0:=by simp[List.getD,h]
theorem getD_take {zs:List Int} {i d:Nat}(h:i<d):(zs.take d).getD i 0=zs.getD i 0:=by simp[List.getD,List.getElem?_take,h]
theorem ext_getD {a b:List Int}(c:a.length=b.length)(h:∀i,i<a.length→a.getD i 0=b.getD i 0):a=b:=by
 apply q168 c
 intro i h1 h2
 have:=h i h1
 rwa [getD_eq h1,getD_eq h2]at this
theorem Blk.seti {w:World} {c:Nat} {k:IntKind} {zs:List Int} {t:TypeId}(h:Blk w c (ints k zs) t)(i:Nat)(z:Int):Blk (w.setCell ⟨c,i,none⟩ (.int k z)) c (ints k (zs.set i z)) t:=by
 rw[←zbw]
 exact h.set i _
def dig(n x:Nat):List Int:=(bytesN n x).map fun b=>(b.toNat:Int)
theorem zcr(n x:Nat):(dig n x).length=n:=by simp[dig,zaq]
theorem gV_bytes:∀(l:List UInt8),gV 256 (l.map fun b=>(b.toNat:Int))=(leN l:Nat)
 |[]=>rfl
 |b::r=>by
  simp only[q139,gV,gV_bytes r,leN]
  omega
theorem gV_dig(n x:Nat):gV 256 (dig n x)=((x%256^n:Nat):Int):=by
 unfold dig
 rw[gV_bytes,zem]
theorem byte_digits(l:List UInt8):∀i,i<(l.map fun b=>(b.toNat:Int)).length→0≤(l.map fun b=>(b.toNat:Int)).getD i 0∧(l.map fun b=>(b.toNat:Int)).getD i 0<256:=by
 intro i a
 have c:i<l.length:=by simpa using a
 rw[getD_eq a,List.getElem_map]
 have:=l[i].toNat_lt
 omega
theorem dig_digits(n x:Nat):∀i,i<n→0≤(dig n x).getD i 0∧(dig n x).getD i 0<256:=by
 intro i a
 exact byte_digits (bytesN n x) i (by simp[zaq,a])
theorem dig_of {zs:List Int} {n x:Nat}(c:zs.length=n)(h:∀i,i<n→0≤zs.getD i 0∧zs.getD i 0<256)(b:gV 256 zs=(x:Int)):zs=dig n x:=by
 have d:=gV_range (B:=256) (by omega) (zs:=zs) (fun i a=>h i (by omega))
 have f:x<256^n:=by
  have h1:=d.2
  rw[b,c]at h1
  have e:((256:Int)^n)=((256^n:Nat):Int):=by simp
  rw[e]at h1
  omega
 refine gV_inj (B:=256) (by omega) (by rw[zcr,c]) (fun i a=>h i (by omega)) (fun i a=>dig_digits n x i (by rwa [zcr]at a)) ?_
 rw[gV_dig,q123 f,b]
theorem zdl:∀(n x i:Nat),i<n→((bytesN n x).getD i 0).toNat=x / 256^i%256
 |0,_,_,h=>by omega
 |n+1,x,0,_=>by
  simp only[bytesN,List.getD_cons_zero,Nat.pow_zero,Nat.div_one]
  rw[UInt8.toNat_ofNat']
  omega
 |n+1,x,i+1,h=>by
  simp only[bytesN,List.getD_cons_succ]
  rw[zdl n (x / 256) i (by omega),q172,q132,q134 256]
def fill(n:Nat)(l:List UInt8)(k:Nat):List UInt8:=l.take k++List.replicate (n - k) 0
theorem fill_zero(n:Nat)(l:List UInt8):fill n l 0=List.replicate n 0:=by simp[fill]
theorem fill_full {n:Nat} {l:List UInt8}(h:l.length=n):fill n l n=l:=by simp[fill,←h]
theorem zeh {n k:Nat} {l:List UInt8}(h:l.length=n)(a:k≤n):(fill n l k).length=n:=by simp[fill];omega
theorem fill_set {n k:Nat} {l:List UInt8}(h:l.length=n)(e:k<n):(fill n l k).set k (l.getD k 0)=fill n l (k+1):=by
 unfold fill
 have d:(l.take k).length=k:=by simp;omega
 have b:n - k=(n - (k+1))+1:=by omega
 have a:k<l.length:=by omega
 have c:l.getD k 0=l[k]:=by simp[List.getD,a]
 rw[q161 _ _ (by omega),d,Nat.sub_self,b,List.replicate_succ,q150,c,q143 a,q109]
 rfl
theorem zdg {n k:Nat} {l:List UInt8}(h:l.length=n)(a:k<n) {z:Int}(b:z=((l.getD k 0).toNat:Int)):((fill n l k).map bval).set k (.int .u8 z)=(fill n l (k+1)).map bval:=by
 subst b
 have:Value.int .u8 ((l.getD k 0).toNat:Int)=bval (l.getD k 0):=rfl
 rw[this,←q141,fill_set h a]
theorem fill_start(n:Nat)(l:List UInt8):(fill n l 0).map bval=ints .u8 (List.replicate n 0):=by
 rw[fill_zero]
 simp[ints,bval]
theorem zct(a:Int)(h1: -9223372036854775808≤a)(h2:a≤9223372036854775807):bits .and .i64 a 255=a%256:=by
 have h:(BitVec.ofInt 64 255).toNat=2^8 - 1:=by decide
 have key:(BitVec.ofInt 64 a &&& BitVec.ofInt 64 255).toNat=(a%((2^64:Nat):Int)).toNat%2^8:=by
  rw[BitVec.toNat_and,BitVec.toNat_ofInt,h,q142]
 show IntKind.i64.wrap ((BitVec.ofInt 64 a &&& BitVec.ofInt 64 255).toNat:Nat)=_
 rw[key,IntKind.wrap_i64]
 omega
theorem and_i64_1(a:Int)(h1: -9223372036854775808≤a)(h2:a≤9223372036854775807):bits .and .i64 a 1=a%2:=by
 have h:(BitVec.ofInt 64 1).toNat=2^1 - 1:=by decide
 have key:(BitVec.ofInt 64 a &&& BitVec.ofInt 64 1).toNat=(a%((2^64:Nat):Int)).toNat%2^1:=by
  rw[BitVec.toNat_and,BitVec.toNat_ofInt,h,q142]
 show IntKind.i64.wrap ((BitVec.ofInt 64 a &&& BitVec.ofInt 64 1).toNat:Nat)=_
 rw[key,IntKind.wrap_i64]
 omega
section
def rootR(x:Int):Int:=if nb (x^pE*x^pE)=nb x then x^pE else x^pE*sm1
def rootB(x:Int):Bool:=decide (nb (rootR x*rootR x)=nb x)
theorem rootB_true {x:Int}(h:nb (rootR x*rootR x)=nb x):rootB x=true:=decide_eq_true h
theorem rootB_true2 {x r:Int}(e:r=rootR x)(h:nb (r*r)=nb x):rootB x=true:=by subst e;exact rootB_true h
end
theorem reighth_any(w:World):Calls Tryz.prog 166 #[] w fun e E=>e=.returned (.agg ((bytesN 32 pE).map bval).toArray)∧Below w.heap.size w E:=by
 have C:=jh (boxes2 w (ints .u8 (List.replicate 32 0)) (ints .u8 (List.replicate 32 0)) 23 23)
 go_enter Tryz.func166,Tryz.ntmps166
 go_wp2_with fail
 change Code.wp _ _ _ _ ((w.alloc (.cells (ints .u8 (List.replicate 32 0)).toArray 23)).alloc (.cells (ints .u8 (List.replicate 32 0)).toArray 23))
 generalize (w.alloc (.cells (ints .u8 (List.replicate 32 0)).toArray 23)).alloc (.cells (ints .u8 (List.replicate 32 0)).toArray 23)=S at*
 obtain⟨h1,h2,z⟩:=C.o
 obtain⟨A,t⟩:=nxq w.heap.size
 rw[←t]at h1 h2⊢
 have V:w.heap.size≤A:=by omega
 obtain⟨l,h,c⟩:=jq3 h1 h2 z
 clear h1 h2 z C t
 go_loopw [2] (fun i wr=>∃(k:Nat) (n:List Int),k≤32∧i=.int .i64 k∧FullB n k∧Blk wr A (ints .u8 (List.replicate 32 0)) 23∧Blk wr (A+1) (ints .u8 n) 23∧Below w.heap.size w wr) (fun i _=>32 - (intOf i).toNat)
 case atStart=>exact⟨0,_,by omega,rfl,⟨rfl,fun j Q=>by omega⟩,l.o,h.o,c.o⟩
 case round=>
  clear l h c
  obtain⟨k,n,X,rfl,d,g,b,f⟩:=hrel
  have P:(0:Int)≤(k:Int):=Int.natCast_nonneg _
  have y:=d.len
  by_cases K:k<32
  ·have U:(k:Int)<32:=by omega
   have x:=b.cell k
   rw[zas (by omega)]at x
   have I:=b.free k
   have B:=d.step K
   obtain⟨H,l,h,c⟩:=jq4 B g b f
   clear g b f d B y
   go_wp2_with fail
   go_roundw
   case rel=>
    refine⟨k+1,_,by omega,by go_num,H.o,l.o.far (by simp) _,?_,c.o.setCell (by simp;omega) _⟩
    rw[←zbw]
    exact h.o.set k _
   case measure=>simp[intOf];omega
  have O:k=32:=by omega
  subst O
  have J:=d.done
  subst J
  have x:wr.cell? ⟨A+1,31,none⟩=some (.int .u8 255):=by rw[b.cell 31];rfl
  have R:wr.cell? ⟨A+1,0,none⟩=some (.int .u8 255):=by rw[b.cell 0];rfl
  have I:=b.free 31
  have T:=b.free 0
  have m:=(b.set 0 (.int .u8 254)).set 31 (.int .u8 15)
  have u:=(g.far (a:=⟨A+1,0,none⟩) (by simp) (.int .u8 254)).far (a:=⟨A+1,31,none⟩) (by simp) (.int .u8 15)
  rw[zbw,zbw]at m
  have s:ints .u8 (((List.replicate 32 255).set 0 254).set 31 15)=(bytesN 32 pE).map bval:=by kernel_rfl
  rw[s]at m
  have q:Below w.heap.size w ((wr.setCell ⟨A+1,0,none⟩ (.int .u8 254)).setCell ⟨A+1,31,none⟩ (.int .u8 15)):=(f.setCell (by simp;omega) _).setCell (by simp;omega) _
  obtain⟨c,N,D⟩:=jq3 m u q
  have p:Hid ((Tryz.prog.info? 23).map (·.size)=some ((bytesN 32 pE).map bval).length):=jh (by rw[q100,zaq];exact Tryz.arr23)
  have F:Hid (((bytesN 32 pE).map bval).length=(ints .u8 (List.replicate 32 0)).length):=jh (by rw[q100,zaq];rfl)
  clear g b m u q f d y s
  go_wp2_with (first|(refine zbd rfl _ _ rfl (A+1) rfl _ _ _ _ c.o q102 p.o ?_)|(refine zal rfl _ _ _ rfl A _ rfl rfl _ _ N.o F.o p.o (zac _) ?_;intro Y L G))
  exact bodyPost_ret (v:=.agg ((bytesN 32 pE).map bval).toArray) (zam (by rfl) _ A _ _ _ _ (by rfl) L q102 p.o) rfl ⟨rfl,D.o.grown G D.o.size (fun r M=>by cases M;omega)⟩
theorem leN_p2:leN (bytesN 32 pE)=pE:=by decide+kernel
theorem leN_eighth:leN (bytesN 32 pE)=pE:=by decide+kernel
theorem rsame_any(u v:Value)(x y:Int)(w:World)(i:IsEl u x)(s:IsEl v y):
  Calls Tryz.prog 167 #[u,v] w fun e z=>e=.returned (.bool (decide (nb x=nb y)))∧Below w.heap.size w z:=by
 obtain⟨p,n⟩:=jq2 i s
 obtain⟨b,rfl,q,H,J,B⟩:=i
 obtain⟨c,rfl,r,C,I,E⟩:=s
 have t:Hid ((Tryz.prog.info? 124).map (·.size)=some (ints .i64 b).length):=jh (by rw[zaa,q];exact Tryz.arr124)
 have h:Hid ((Tryz.prog.info? 124).map (·.size)=some (ints .i64 c).length):=jh (by rw[zaa,r];exact Tryz.arr124)
 have j:=jh (boxes2 w (ints .i64 b) (ints .i64 c) 124 124)
 clear q H B r C E
 go_enter Tryz.func167,Tryz.ntmps167
 go_wp2_with fail
 change Code.wp _ _ _ _ ((w.alloc (.cells (ints .i64 b).toArray 124)).alloc (.cells (ints .i64 c).toArray 124))
 generalize (w.alloc (.cells (ints .i64 b).toArray 124)).alloc (.cells (ints .i64 c).toArray 124)=F at*
 obtain⟨h1,h2,g⟩:=j.o
 obtain⟨A,G⟩:=nxq w.heap.size
 rw[←G]at h1 h2⊢
 have K:w.heap.size≤A:=by omega
 obtain⟨m,l⟩:=jq2 h1 h2
 have k:Hid (Ext w F):=jh g
 clear h1 h2 g j
 by_cases d:nb x=nb y
 ·skip
  refine zcv (by kernel_rfl) (by kernel_rfl) ?_
  refine det_load _ _ A (ints .i64 b) _ (by rfl) rfl rfl (fun w a=>ext_range m.o a) q103 rfl t.o ?_
  simp only[nm]
  refine det_call _ _ _ [.agg (ints .i64 b).toArray] (.agg ((nb x).map bval).toArray) (by rfl) rfl Tryz.call123 rfl (fun w a=>rout_any _ x w p.o) ?_
  simp only[nm]
  refine det_load _ _ (A+1) (ints .i64 c) _ (by rfl) rfl rfl (fun w a=>ext_range l.o a) q103 rfl h.o ?_
  simp only[nm]
  refine det_call _ _ _ [.agg (ints .i64 c).toArray] (.agg ((nb y).map bval).toArray) (by rfl) rfl Tryz.call123 rfl (fun w a=>rout_any _ y w n.o) ?_
  simp only[nm]
  refine det_eql _ _ _ _ _ _ 32 _ (nb x) (nb y) true (by rfl) rfl (Or.inl ⟨rfl,decide_eq_true d⟩) q102 q113 zdq zcd zdn rfl rfl (nb_length _) (nb_length _) ?_
  simp only[nm]
  refine zcf _ (.bool true) (by rfl) rfl rfl ?_
  simp only[nm]
  refine det_nil (fun D f=>?_)
  go_wp2_with fail
  go_ret
  exact⟨by rw[decide_eq_true d];rfl,k.o.trans f⟩
 skip
 refine zcv (by kernel_rfl) (by kernel_rfl) ?_
 refine det_load _ _ A (ints .i64 b) _ (by rfl) rfl rfl (fun w a=>ext_range m.o a) q103 rfl t.o ?_
 simp only[nm]
 refine det_call _ _ _ [.agg (ints .i64 b).toArray] (.agg ((nb x).map bval).toArray) (by rfl) rfl Tryz.call123 rfl (fun w a=>rout_any _ x w p.o) ?_
 simp only[nm]
 refine det_load _ _ (A+1) (ints .i64 c) _ (by rfl) rfl rfl (fun w a=>ext_range l.o a) q103 rfl h.o ?_
 simp only[nm]
 refine det_call _ _ _ [.agg (ints .i64 c).toArray] (.agg ((nb y).map bval).toArray) (by rfl) rfl Tryz.call123 rfl (fun w a=>rout_any _ y w n.o) ?_
 simp only[nm]
 refine det_eql _ _ _ _ _ _ 32 _ (nb x) (nb y) false (by rfl) rfl (Or.inl ⟨rfl,decide_eq_false d⟩) q102 q113 zdq zcd zdn rfl rfl (nb_length _) (nb_length _) ?_
 simp only[nm]
 refine zcf _ (.bool false) (by rfl) rfl rfl ?_
 simp only[nm]
 refine det_nil (fun D f=>?_)
 go_wp2_with fail
 go_ret
 exact⟨by rw[decide_eq_false d];rfl,k.o.trans f⟩
def RTL:List Int:=[41136,18958,6951,50414,58488,44335,6150,12099,55207,15867,153,11085,57099,20417,9344,11139]
theorem rt_el:IsEl (.agg (ints .i64 RTL).toArray) sm1:=⟨RTL,rfl,rfl,by decide+kernel,0,by decide+kernel⟩
def Glob(w:World):Prop:=w.rangeAt 8 0 (ints .i64 RTL)
theorem Glob.ext {w a:World}(h:Glob w)(b:Ext w a):Glob a:=glob_ext h b
theorem rroot_any(u:Value)(x:Int)(w:World)(hu:IsEl u x)(hG:Glob w):
  Calls Tryz.prog 134 #[u] w fun e t=>(∃r,e=.returned (.tuple #[r,.bool (rootB x)])∧IsEl r (rootR x))∧Below w.heap.size w t:=by
 have M:=jh hu
 obtain⟨q,rfl,la,ba,qa,va⟩:=hu
 have z:=jh q103
 have a2:Hid ((Tryz.prog.info? 124).map (·.size)=some (ints .i64 q).length):=jh (by rw[zaa,la];exact Tryz.arr124)
 obtain⟨af,a8⟩:=jq2 hG (boxes2 w (ints .i64 q) (ints .i64 (List.replicate 16 0)) 124 124)
 clear la ba va hG
 go_enter Tryz.func134,Tryz.ntmps134
 go_wp2_with fail
 change Code.wp _ _ _ _ ((w.alloc (.cells (ints .i64 q).toArray 124)).alloc (.cells (ints .i64 (List.replicate 16 0)).toArray 124))
 generalize (w.alloc (.cells (ints .i64 q).toArray 124)).alloc (.cells (ints .i64 (List.replicate 16 0)).toArray 124)=k at*
 obtain⟨h1,h2,h4⟩:=a8.o
 obtain⟨A,hA⟩:=nxq w.heap.size
 rw[←hA]at h1 h2⊢
 have ag:w.heap.size≤A:=by omega
 obtain⟨m,I⟩:=jq2 h1 h2
 have H4:Hid (Ext w k):=jh h4
 clear h1 h2 h4 a8 hA
 go_cut [4]from 5 to 22 (fun v wc=>∃(c:Nat) (zs:List Int),v=.pointer (some ⟨c,0,none⟩)∧A+1<c∧Blk wc c (ints .i64 zs) 124∧zs.length=16∧IsEl (.agg (ints .i64 zs).toArray) (x^pE)∧Ext k wc)
 case first=>
  have g:Below k.heap.size k k.drew:=(Below.refl _ _).drew
  refine wp_region_held_drew (S:=fun t=>t.rangeAt A 0 (ints .i64 q)) (by kernel_rfl) (zax m.o g) (fun b=>?_)
  refine tke 0 (.agg (ints .i64 q).toArray) rfl (yieldsIf_load_mid (by rfl) _ _ rfl A 0 rfl _ _ (fun w h=>h) z.o rfl a2.o) b ?_
  try simp only[nm]
  refine wpAnyH_ready (rs:=[1,3]) (by kernel_rfl) (by simp) (AllReadyH.cons rfl (fun K a=>?_) (AllReadyH.cons rfl (fun K a=>?_) AllReadyH.nil))
  ·skip
   go_simp
   refine(reighth_any _).mono ?_
   rintro e T ⟨rfl,D⟩
   have f:=g.trans (D.mono g.size)
   refine a.o _ _ (zax m.o f) (fun b=>?_)
   clear a K b
   try simp only[nm]
   refine wpAnyH_ready (rs:=[2,3]) (by kernel_rfl) (by simp) (AllReadyH.cons rfl (fun K a=>?_) (AllReadyH.cons rfl (fun K a=>?_) AllReadyH.nil))
   ·skip
    go_simp
    refine(rpow_any _ _ (bytesN 32 pE) _ M.o (zaq 32 pE)).mono ?_
    rintro e O ⟨r2,rfl,B,n⟩
    rw[leN_eighth]at B
    obtain⟨zs,rfl,lz,bz,qz,vz⟩:=id B
    have d:=f.trans (n.mono f.size)
    refine a.o _ _ (zax m.o d) (fun b=>?_)
    clear a K b
    try simp only[nm]
    refine rdy 3 rfl fun K a=>?_
    go_simp
    have a0:=Blk.made O (ints .i64 (List.replicate 16 0)) 124
    have s:=d.trans ((Ext.alloc O (.cells (ints .i64 (List.replicate 16 0)).toArray 124)).mono d.size)
    refine a.o _ _ (zax m.o s) (fun b=>?_)
    clear a K b
    try simp only[nm]
    refine rdy 4 rfl fun K a=>?_
    rw[if_pos (by rfl)]
    have Y:(Tryz.prog.info? 124).map (·.size)=some (ints .i64 zs).length:=by rw[zaa,lz];exact Tryz.arr124
    have a1:A+1<O.heap.size:=by have:=(bl_blk I.o d).lt;simpa using this
    have W:=a0
    refine zar _ _ _ rfl O.heap.size (ints .i64 zs) rfl rfl _ _ W (by rw[zaa,zaa,lz];rfl) Y (zah _ _) ?_
    intro E F l
    refine a.o _ _ ((bl_blk m.o s).grown l (by simp;omega)).range (fun b=>?_)
    clear a K b
    refine dne ?_
    have R:Ext k E:=Below.grown s l s.size (fun r U=>by cases U;have:=I.o.lt;have:=d.size;omega)
    go_wp2_with fail
    go_meet
    exact⟨_,zs,rfl,a1,F,lz,B,R⟩
   skip
   go_simp
   have a0:=Blk.made T (ints .i64 (List.replicate 16 0)) 124
   have s:=f.trans ((Ext.alloc T (.cells (ints .i64 (List.replicate 16 0)).toArray 124)).mono f.size)
   refine a.o _ _ (zax m.o s) (fun b=>?_)
   clear a K b
   try simp only[nm]
   refine rdy 2 rfl fun K a=>?_
   go_simp
   refine(rpow_any _ _ (bytesN 32 pE) _ M.o (zaq 32 pE)).mono ?_
   rintro e O ⟨r2,rfl,B,n⟩
   rw[leN_eighth]at B
   obtain⟨zs,rfl,lz,bz,qz,vz⟩:=id B
   have d:=s.trans (n.mono s.size)
   refine a.o _ _ (zax m.o d) (fun b=>?_)
   clear a K b
   try simp only[nm]
   refine rdy 4 rfl fun K a=>?_
   rw[if_pos (by rfl)]
   have Y:(Tryz.prog.info? 124).map (·.size)=some (ints .i64 zs).length:=by rw[zaa,lz];exact Tryz.arr124
   have a1:A+1<T.heap.size:=by have:=(bl_blk I.o f).lt;simpa using this
   have W:=bl_blk a0 n
   refine zar _ _ _ rfl T.heap.size (ints .i64 zs) rfl rfl _ _ W (by rw[zaa,zaa,lz];rfl) Y (zah _ _) ?_
   intro E F l
   refine a.o _ _ ((bl_blk m.o d).grown l (by simp;omega)).range (fun b=>?_)
   clear a K b
   refine dne ?_
   have R:Ext k E:=Below.grown d l d.size (fun r U=>by cases U;have:=I.o.lt;have:=f.size;omega)
   go_wp2_with fail
   go_meet
   exact⟨_,zs,rfl,a1,F,lz,B,R⟩
  skip
  go_simp
  have a0:=Blk.made k.drew (ints .i64 (List.replicate 16 0)) 124
  have s:=g.trans ((Ext.alloc k.drew (.cells (ints .i64 (List.replicate 16 0)).toArray 124)).mono g.size)
  refine a.o _ _ (zax m.o s) (fun b=>?_)
  clear a K b
  try simp only[nm]
  refine rdy 1 rfl fun K a=>?_
  go_simp
  refine(reighth_any _).mono ?_
  rintro e T ⟨rfl,D⟩
  have f:=s.trans (D.mono s.size)
  refine a.o _ _ (zax m.o f) (fun b=>?_)
  clear a K b
  try simp only[nm]
  refine rdy 2 rfl fun K a=>?_
  go_simp
  refine(rpow_any _ _ (bytesN 32 pE) _ M.o (zaq 32 pE)).mono ?_
  rintro e O ⟨r2,rfl,B,n⟩
  rw[leN_eighth]at B
  obtain⟨zs,rfl,lz,bz,qz,vz⟩:=id B
  have d:=f.trans (n.mono f.size)
  refine a.o _ _ (zax m.o d) (fun b=>?_)
  clear a K b
  try simp only[nm]
  refine rdy 4 rfl fun K a=>?_
  rw[if_pos (by rfl)]
  have Y:(Tryz.prog.info? 124).map (·.size)=some (ints .i64 zs).length:=by rw[zaa,lz];exact Tryz.arr124
  have a1:A+1<k.heap.size:=by have:=(bl_blk I.o (Below.refl k.heap.size k)).lt;simpa using this
  have W:=bl_blk (bl_blk a0 D) n
  refine zar _ _ _ rfl k.heap.size (ints .i64 zs) rfl rfl _ _ W (by rw[zaa,zaa,lz];rfl) Y (zah _ _) ?_
  intro E F l
  refine a.o _ _ ((bl_blk m.o d).grown l (by simp;omega)).range (fun b=>?_)
  clear a K b
  refine dne ?_
  have R:Ext k E:=Below.grown d l d.size (fun r U=>by cases U;have:=I.o.lt;have:=(Below.refl k.heap.size k).size;omega)
  go_wp2_with fail
  go_meet
  exact⟨_,zs,rfl,a1,F,lz,B,R⟩
 case rest=>
  obtain⟨c,zs,rfl,hc,a7,lz,ez,hE⟩:=hcut
  obtain⟨y,hy⟩:=nxq (x^pE)
  have a6:Hid (nb (y*y)=nb x→rootR x=y):=jh (fun h=>by unfold rootR;rw[←hy,if_pos h])
  have ac:Hid (¬nb (y*y)=nb x→rootR x=y*sm1):=jh (fun h=>by unfold rootR;rw[←hy,if_neg h])
  rw[←hy]at ez
  obtain⟨N,i,j,G⟩:=jq4 ez a7 (zak m.o hE) (zak I.o hE)
  have C:Hid (Ext w wc):=jh (H4.o.trans hE)
  have J:Hid ((Tryz.prog.info? 124).map (·.size)=some (ints .i64 zs).length):=jh (by rw[zaa,lz];exact Tryz.arr124)
  have ad:Hid ((Tryz.prog.info? 124).map (·.size)=some (ints .i64 RTL).length):=jh (by rw[zaa];exact Tryz.arr124)
  have a9:=jh lz
  clear a7 lz ez hE hy m I H4
  by_cases Q:nb (y*y)=nb x
  ·skip
   go_wp2_with fail
   have g:Below wc.heap.size wc wc.drew:=(Below.refl _ _).drew
   refine wp_region_held_drew (S:=fun t=>t.rangeAt A 0 (ints .i64 q)∧t.rangeAt c 0 (ints .i64 zs)) (by kernel_rfl) ⟨zax j.o g,zax i.o g⟩ (fun b=>?_)
   refine tke 0 (.agg (ints .i64 zs).toArray) rfl (yieldsIf_load_mid (by rfl) _ _ rfl c 0 rfl _ _ (fun w h=>h.2) z.o rfl J.o) b ?_
   try simp only[nm]
   refine tke 1 (.agg (ints .i64 zs).toArray) rfl (yieldsIf_load_mid (by rfl) _ _ rfl c 0 rfl _ _ (fun w h=>h.2) z.o rfl J.o) b ?_
   try simp only[nm]
   refine tke 3 (.agg (ints .i64 q).toArray) rfl (yieldsIf_load_mid (by rfl) _ _ rfl A 0 rfl _ _ (fun w h=>h.1) z.o rfl a2.o) b ?_
   try simp only[nm]
   refine rdy 2 rfl fun K a=>?_
   go_simp
   refine(rmul_any _ _ _ _ _ N.o N.o).mono ?_
   rintro e m1 ⟨r1,rfl,X,D⟩
   have f:=g.trans (D.mono g.size)
   refine a.o _ _ ⟨zax j.o f,zax i.o f⟩ (fun b=>?_)
   clear a K b
   try simp only[nm]
   refine rdy 4 rfl fun K a=>?_
   go_simp
   refine(rsame_any _ _ _ _ _ X M.o).mono ?_
   rintro e m2 ⟨L,n⟩
   rw[decide_eq_true Q]at L
   subst L
   have d:=f.trans (n.mono f.size)
   refine a.o _ _ ⟨zax j.o d,zax i.o d⟩ (fun b=>?_)
   clear a K b
   try simp only[nm]
   refine dne ?_
   obtain⟨i,j,G,C⟩:=jq4 (zak i.o d) (zak j.o d) (zak G.o d) (C.o.trans d)
   clear D n g f d X
   have a3:=jh Q
   clear Q
   go_wp2_with (first|(refine zbd rfl _ _ rfl c rfl _ _ _ _ i.o q103 J.o ?_)|(refine zal rfl _ _ _ rfl (A+1) _ rfl rfl _ _ G.o (by rw[zaa,zaa,a9.o];rfl) J.o (zah _ _) ?_;intro E F l))
   exact bodyPost_ret (zau (p:=2) (u:=3) (by rfl) _ (A+1) _ _ _ (by rfl) F q103 rfl J.o) rfl ⟨⟨_,by rw[rootB_true2 (a6.o a3.o).symm a3.o];rfl,by rw[a6.o a3.o];exact N.o⟩,zab C.o l (by omega)⟩
  skip
  go_wp2_with fail
  have g:Below wc.heap.size wc wc.drew:=(Below.refl _ _).drew
  refine wp_region_held_drew (S:=fun t=>t.rangeAt A 0 (ints .i64 q)∧t.rangeAt c 0 (ints .i64 zs)) (by kernel_rfl) ⟨zax j.o g,zax i.o g⟩ (fun b=>?_)
  refine tke 0 (.agg (ints .i64 zs).toArray) rfl (yieldsIf_load_mid (by rfl) _ _ rfl c 0 rfl _ _ (fun w h=>h.2) z.o rfl J.o) b ?_
  try simp only[nm]
  refine tke 1 (.agg (ints .i64 zs).toArray) rfl (yieldsIf_load_mid (by rfl) _ _ rfl c 0 rfl _ _ (fun w h=>h.2) z.o rfl J.o) b ?_
  try simp only[nm]
  refine tke 3 (.agg (ints .i64 q).toArray) rfl (yieldsIf_load_mid (by rfl) _ _ rfl A 0 rfl _ _ (fun w h=>h.1) z.o rfl a2.o) b ?_
  try simp only[nm]
  refine rdy 2 rfl fun K a=>?_
  go_simp
  refine(rmul_any _ _ _ _ _ N.o N.o).mono ?_
  rintro e m1 ⟨r1,rfl,X,D⟩
  have f:=g.trans (D.mono g.size)
  refine a.o _ _ ⟨zax j.o f,zax i.o f⟩ (fun b=>?_)
  clear a K b
  try simp only[nm]
  refine rdy 4 rfl fun K a=>?_
  go_simp
  refine(rsame_any _ _ _ _ _ X M.o).mono ?_
  rintro e m2 ⟨L,n⟩
  rw[decide_eq_false Q]at L
  subst L
  have d:=f.trans (n.mono f.size)
  refine a.o _ _ ⟨zax j.o d,zax i.o d⟩ (fun b=>?_)
  clear a K b
  try simp only[nm]
  refine dne ?_
  obtain⟨i,j,G,C⟩:=jq4 (zak i.o d) (zak j.o d) (zak G.o d) (C.o.trans d)
  clear D n g f d X
  have ab:=jh (ac.o Q)
  clear Q
  have ae:Hid (m2.rangeAt 8 0 (ints .i64 RTL)):=jh (af.o.ext C.o)
  go_wp2_with (first|(refine zbd rfl _ _ rfl c rfl _ _ _ _ i.o q103 J.o ?_)|(refine wpList_load_mid rfl _ _ rfl 8 0 rfl (ints .i64 RTL) _ ae.o q103 rfl ad.o ?_))
  refine(rmul_any _ _ _ _ _ N.o rt_el).mono ?_
  rintro e m3 ⟨r3,rfl,e3,Z⟩
  rw[←ab.o]at e3
  obtain⟨ws,rfl,lw,bw,qw,vw⟩:=id e3
  obtain⟨a4,i,j,G,C⟩:=jq5 e3 (zak i.o Z) (zak j.o Z) (zak G.o Z) (C.o.trans Z)
  have P:Hid ((Tryz.prog.info? 124).map (·.size)=some (ints .i64 ws).length):=jh (by rw[zaa,lw];exact Tryz.arr124)
  have a5:=jh lw
  clear Z e3 lw bw vw
  go_wp2_with (refine zal rfl _ _ _ rfl c (ints .i64 ws) rfl rfl _ _ i.o (by rw[zaa,zaa,a9.o,a5.o]) P.o (zah _ _) ?_;intro E F l)
  have j:=jh (j.o.grown l (by simp;omega))
  have G:=jh (G.o.grown l (by simp;omega))
  have C:=jh (zab C.o l (by omega))
  have i:=jh F
  clear F l
  have g:Below E.heap.size E E.drew:=(Below.refl _ _).drew
  refine wp_region_held_drew (S:=fun t=>t.rangeAt A 0 (ints .i64 q)∧t.rangeAt c 0 (ints .i64 ws)) (by kernel_rfl) ⟨zax j.o g,zax i.o g⟩ (fun b=>?_)
  refine tke 0 (.agg (ints .i64 ws).toArray) rfl (yieldsIf_load_mid (by rfl) _ _ rfl c 0 rfl _ _ (fun w h=>h.2) z.o rfl P.o) b ?_
  try simp only[nm]
  refine tke 1 (.agg (ints .i64 ws).toArray) rfl (yieldsIf_load_mid (by rfl) _ _ rfl c 0 rfl _ _ (fun w h=>h.2) z.o rfl P.o) b ?_
  try simp only[nm]
  refine tke 2 (.agg (ints .i64 ws).toArray) rfl (yieldsIf_load_mid (by rfl) _ _ rfl c 0 rfl _ _ (fun w h=>h.2) z.o rfl P.o) b ?_
  try simp only[nm]
  refine tke 4 (.agg (ints .i64 q).toArray) rfl (yieldsIf_load_mid (by rfl) _ _ rfl A 0 rfl _ _ (fun w h=>h.1) z.o rfl a2.o) b ?_
  try simp only[nm]
  refine rdy 3 rfl fun K a=>?_
  go_simp
  refine(rmul_any _ _ _ _ _ a4.o a4.o).mono ?_
  rintro e m6 ⟨r6,rfl,e6,b6⟩
  have B6:=g.trans (b6.mono g.size)
  refine a.o _ _ ⟨zax j.o B6,zax i.o B6⟩ (fun b=>?_)
  clear a K b
  try simp only[nm]
  refine rdy 5 rfl fun K a=>?_
  go_simp
  refine(rsame_any _ _ _ _ _ e6 M.o).mono ?_
  rintro e m7 ⟨L,b7⟩
  rw[show decide (nb (rootR x*rootR x)=nb x)=rootB x from rfl]at L
  subst L
  have H:=B6.trans (b7.mono B6.size)
  refine a.o _ _ ⟨zax j.o H,zax i.o H⟩ (fun b=>?_)
  clear a K b
  try simp only[nm]
  refine rdy 6 rfl fun K a=>?_
  rw[if_pos (by rfl)]
  refine zar _ _ _ rfl (A+1) (ints .i64 ws) rfl rfl _ _ (bl_blk G.o H) (by rw[zaa,zaa,a5.o];rfl) P.o (zah _ _) ?_
  intro w8 aa V
  refine a.o _ _ ⟨((bl_blk j.o H).grown V (by simp)).range,((bl_blk i.o H).grown V (by simp;omega)).range⟩ (fun b=>?_)
  clear a K b
  try simp only[nm]
  refine rdy 7 rfl fun K a=>?_
  go_simp
  refine a.o _ _ ⟨((bl_blk j.o H).grown V (by simp)).range,((bl_blk i.o H).grown V (by simp;omega)).range⟩ (fun b=>?_)
  clear a K b
  try simp only[nm]
  refine dne ?_
  go_wp2_with fail
  exact bodyPost_ret (zau (p:=2) (u:=3) (by rfl) _ (A+1) _ _ _ (by rfl) aa q103 rfl P.o) rfl ⟨⟨_,rfl,a4.o⟩,zab (C.o.trans H) V (by omega)⟩
theorem gCurD:Tryz.prog.globalNamed "portcullis/portcullisref3.d"=some 5:=by kernel_rfl
theorem tCurD:(Tryz.prog.globals[5]?).map (·.type)=some 124:=by kernel_rfl
theorem dCurD:(Rows.laid_portcullis_portcullisref3_d:DataW Unit)=.agg (dL.map fun z=>.lit (.int .i64 z)):=rfl
theorem gCurX:Tryz.prog.globalNamed "portcullis/portcullisref3.baseX"=some 2:=by kernel_rfl
theorem tCurX:(Tryz.prog.globals[2]?).map (·.type)=some 124:=by kernel_rfl
theorem dCurX:(Rows.laid_portcullis_portcullisref3_baseX:DataW Unit)=.agg (bxL.map fun z=>.lit (.int .i64 z)):=rfl
theorem gCurY:Tryz.prog.globalNamed "portcullis/portcullisref3.baseY"=some 3:=by kernel_rfl
theorem tCurY:(Tryz.prog.globals[3]?).map (·.type)=some 124:=by kernel_rfl
theorem dCurY:(Rows.laid_portcullis_portcullisref3_baseY:DataW Unit)=.agg (byL.map fun z=>.lit (.int .i64 z)):=rfl
theorem gCurL:Tryz.prog.globalNamed "portcullis/portcullisref3.rootOfMinusOne"=some 8:=by kernel_rfl
theorem tCurL:(Tryz.prog.globals[8]?).map (·.type)=some 124:=by kernel_rfl
theorem dCurL:(Rows.laid_portcullis_portcullisref3_rootOfMinusOne:DataW Unit)=.agg (RTL.map fun z=>.lit (.int .i64 z)):=rfl
theorem globD_of {W:World} {L:List (String×DataW Unit)}(b:(L.all fun x=>x.2.handleName?.isNone)=true)(h:laidMetH Tryz.prog L W)(a:("portcullis/portcullisref3.d",Rows.laid_portcullis_portcullisref3_d)∈L):GlobD W:=
 zcw b h a dCurD gCurD tCurD q103 q156 (by kernel_rfl) rfl
theorem globX_of {W:World} {L:List (String×DataW Unit)}(b:(L.all fun x=>x.2.handleName?.isNone)=true)(h:laidMetH Tryz.prog L W)(a:("portcullis/portcullisref3.baseX",Rows.laid_portcullis_portcullisref3_baseX)∈L):GlobX W:=
 zcw b h a dCurX gCurX tCurX q103 q156 (by kernel_rfl) rfl
theorem globY_of {W:World} {L:List (String×DataW Unit)}(b:(L.all fun x=>x.2.handleName?.isNone)=true)(h:laidMetH Tryz.prog L W)(a:("portcullis/portcullisref3.baseY",Rows.laid_portcullis_portcullisref3_baseY)∈L):GlobY W:=
 zcw b h a dCurY gCurY tCurY q103 q156 (by kernel_rfl) rfl
theorem globL_of {W:World} {L:List (String×DataW Unit)}(b:(L.all fun x=>x.2.handleName?.isNone)=true)(h:laidMetH Tryz.prog L W)(a:("portcullis/portcullisref3.rootOfMinusOne",Rows.laid_portcullis_portcullisref3_rootOfMinusOne)∈L):Glob W:=
 zcw b h a dCurL gCurL tCurL q103 q156 (by kernel_rfl) rfl
theorem f_neg(a:Fp):0 - a=-a:=by grind
def K0(X Z:Fp):Prop:=Z=0
theorem nbF_zer {f:Fp}(h:nbF f=zer):f=0:=by
 have h1:leN (nbF f)=0:=by rw[h,leN_zer]
 have h2:=zem 32 f.val
 have a:f.val<256^32:=Nat.lt_trans f.isLt (by decide+kernel)
 unfold nbF at h1
 rw[h1,q123 a]at h2
 exact Fin.ext h2.symm
theorem nbF_nought:nbF 0=zer:=by decide+kernel
theorem leN_byteL(l:List UInt8)(i:Nat)(h:i<l.length):(l.getD i 0).toNat=leN l / 256^i%256:=by
 have e:=bytesN_leN l
 have h2:=zdl l.length (leN l) i h
 rw[e]at h2
 exact h2
theorem leN_top {l:List UInt8}(h:l.length=32)(ht:(l.getD 31 0).toNat<128):leN l<2^255:=by
 have h1:=leN_byteL l 31 (by omega)
 have h2:=leN_lt l
 rw[h]at h2
 have e:(256:Nat)^32=256^31*256:=by decide+kernel
 have b:leN l / 256^31<256:=(Nat.div_lt_iff_lt_mul (by decide)).2 (by rw[q134,←e];exact h2)
 rw[q123 b]at h1
 rw[h1]at ht
 have a:=(Nat.div_lt_iff_lt_mul (by decide)).1 ht
 have c:(128:Nat)*256^31=2^255:=by decide+kernel
 rw[c]at a
 exact a
theorem u8_mask(b:UInt8)(h:b.toNat<128):b &&& 127=b:=by
 have a:∀n:Fin 128,(UInt8.ofNat n.val) &&& 127=UInt8.ofNat n.val:=by decide+kernel
 have:=a ⟨b.toNat,h⟩
 simpa using this
theorem mask_id {l:List UInt8}(h:l.length=32)(ht:(l.getD 31 0).toNat<128):maskB l=l:=by
 unfold maskB
 rw[u8_mask _ ht]
 apply List.ext_getElem?
 intro i
 rw[List.getElem?_set]
 split
 ·rename_i e
  subst e
  rw[List.getD_eq_getElem?_getD,List.getElem?_eq_getElem (by omega)]
  simp[h]
 rfl
theorem nbF_top(f:Fp):((nbF f).getD 31 0).toNat<128:=by
 unfold nbF
 rw[zdl 32 f.val 31 (by omega)]
 have h1:=f.isLt
 have h2:f.val<2^255:=Nat.lt_trans h1 (by decide+kernel)
 have a:(2:Nat)^255=128*256^31:=by decide+kernel
 rw[a]at h2
 have b:=(Nat.div_lt_iff_lt_mul (by decide:0<256^31)).2 h2
 omega
theorem mask_nbF(f:Fp):maskB (nbF f)=nbF f:=mask_id (zca f) (nbF_top f)
theorem fp_nbF(f:Fp):fp (leN (nbF f))=f:=by
 unfold nbF
 rw[zem,q123 (Nat.lt_trans f.isLt (by decide+kernel))]
 apply Fin.ext
 rw[fp_val,q159 (Int.natCast_nonneg _) (by have:=f.isLt;have e:pP=((pN:Nat):Int):=(by decide+kernel);rw[e];exact Int.ofNat_lt.2 this)]
 rfl
theorem ladB_nbF(k:List UInt8)(f:Fp):ladB k (nbF f)=nbF (lmul (leN (clampB k)) f):=by
 unfold ladB
 rw[mask_nbF,fp_nbF]
theorem u8_ctop(b:UInt8):(b &&& 127|||64).toNat<128:=by
 have a:∀n:Fin 256,((UInt8.ofNat n.val) &&& 127|||64).toNat<128:=by decide+kernel
 have:=a ⟨b.toNat,b.toNat_lt⟩
 simpa using this
theorem u8_clow(b:UInt8):(b &&& 248).toNat%8=0:=by
 have a:∀n:Fin 256,((UInt8.ofNat n.val) &&& 248).toNat%8=0:=by decide+kernel
 have:=a ⟨b.toNat,b.toNat_lt⟩
 simpa using this
theorem clamp_lt {k:List UInt8}(h:k.length=32):leN (clampB k)<2^255:=by
 refine leN_top (zcy h) ?_
 unfold clampB
 rw[List.getD_eq_getElem?_getD,List.getElem?_set_self (by simp[h])]
 exact u8_ctop _
theorem clamp_low {k:List UInt8}(h:k.length=32):leN (clampB k)%8=0:=by
 have h1:=leN_byteL (clampB k) 0 (by rw[zcy h];omega)
 have h2:((clampB k).getD 0 0).toNat%8=0:=by
  unfold clampB
  rw[List.getD_eq_getElem?_getD,List.getElem?_set_ne (by omega),List.getElem?_set_self (by simp[h])]
  exact u8_clow _
 rw[h1]at h2
 simp at h2
 omega
theorem nine_uv:fp (leN (maskB nineB))=uv bP:=by
 rw[uv_base]
 decide+kernel
theorem pubB_eq(k:List UInt8):pubB k=nbF (lmul (leN (clampB k)) (uv bP)):=by
 unfold pubB ladB
 rw[nine_uv]
abbrev Q64:=BitVec 64
def qi(b:Q64):Int:=(b.toNat:Int)
theorem qi_range(b:Q64):0≤qi b∧qi b≤18446744073709551615:=by
 have:=b.isLt
 unfold qi
 omega
theorem ofInt_qi(b:Q64):BitVec.ofInt 64 (qi b)=b:=by
 unfold qi
 apply BitVec.eq_of_toNat_eq
 have:=b.isLt
 rw[BitVec.toNat_ofInt]
 omega
theorem wrap_natq(n:Nat):IntKind.u64.wrap (n:Int)=((n%18446744073709551616:Nat):Int):=by rw[IntKind.wrap_u64];omega
theorem qi_lit(n:Nat)(h:n<18446744073709551616):qi (BitVec.ofNat 64 n)=(n:Int):=by
 unfold qi
 rw[BitVec.toNat_ofNat]
 omega
theorem qi_add(a b:Q64):IntKind.u64.wrap (qi a+qi b)=qi (a+b):=by
 unfold qi
 rw[←Int.natCast_add,wrap_natq,BitVec.toNat_add]
theorem qi_and(a b:Q64):bits .and .u64 (qi a) (qi b)=qi (a &&& b):=by
 show IntKind.u64.wrap ((BitVec.ofInt 64 (qi a) &&& BitVec.ofInt 64 (qi b)).toNat:Nat)=_
 rw[ofInt_qi,ofInt_qi,wrap_natq,q123 (a &&& b).isLt]
 rfl
theorem qi_or(a b:Q64):bits .or .u64 (qi a) (qi b)=qi (a|||b):=by
 show IntKind.u64.wrap ((BitVec.ofInt 64 (qi a)|||BitVec.ofInt 64 (qi b)).toNat:Nat)=_
 rw[ofInt_qi,ofInt_qi,wrap_natq,q123 (a|||b).isLt]
 rfl
theorem qi_xor(a b:Q64):bits .xor .u64 (qi a) (qi b)=qi (a^^^b):=by
 show IntKind.u64.wrap ((BitVec.ofInt 64 (qi a)^^^BitVec.ofInt 64 (qi b)).toNat:Nat)=_
 rw[ofInt_qi,ofInt_qi,wrap_natq,q123 (a^^^b).isLt]
 rfl
theorem qi_shr(a:Q64)(n:Nat):qi a / 2^n=qi (a>>>n):=by
 unfold qi
 rw[BitVec.toNat_ushiftRight,Nat.shiftRight_eq_div_pow]
 simp
theorem qi_shl(a:Q64)(n:Nat):IntKind.u64.wrap (qi a*2^n)=qi (a<<<n):=by
 unfold qi
 have e:((a.toNat:Int)*2^n)=((a.toNat*2^n:Nat):Int):=by simp
 rw[e,wrap_natq,BitVec.toNat_shiftLeft,Nat.shiftLeft_eq]
def rotq(a:Q64)(n:Nat):Q64:=a>>>n|||a<<<(64 - n)
theorem qi_rotq(a:Q64)(n:Nat):bits .or .u64 (qi a / 2^n) (IntKind.u64.wrap (qi a*2^(64 - n)))=qi (rotq a n):=by
 rw[qi_shr,qi_shl,qi_or]
 rfl
def qs(l:List Q64):List Int:=l.map qi
theorem zdd(l:List Q64):(qs l).length=l.length:=by simp[qs]
theorem qs_getD(l:List Q64)(i:Nat):(qs l).getD i 0=qi (l.getD i 0#64):=by
 unfold qs
 simp only[List.getD,List.getElem?_map]
 cases l[i]? <;>simp[qi]
theorem qs_set(l:List Q64)(i:Nat)(b:Q64):(qs l).set i (qi b)=qs (l.set i b):=by
 unfold qs
 rw[q141]
theorem qs_zeros(n:Nat):qs (List.replicate n 0#64)=List.replicate n 0:=by simp[qs,qi]
abbrev W32:=BitVec 32
def wi(b:W32):Int:=(b.toNat:Int)
theorem wi_range(b:W32):0≤wi b∧wi b≤4294967295:=by
 have:=b.isLt
 unfold wi
 omega
theorem ofInt_wi(b:W32):BitVec.ofInt 32 (wi b)=b:=by
 unfold wi
 apply BitVec.eq_of_toNat_eq
 have:=b.isLt
 rw[BitVec.toNat_ofInt]
 omega
theorem wrap_nat(n:Nat):IntKind.u32.wrap (n:Int)=((n%4294967296:Nat):Int):=by rw[IntKind.wrap_u32];omega
theorem wi_lit(n:Nat)(h:n<4294967296):wi (BitVec.ofNat 32 n)=(n:Int):=by
 unfold wi
 rw[BitVec.toNat_ofNat]
 omega
theorem zci(a b:W32):IntKind.u32.wrap (wi a+wi b)=wi (a+b):=by
 unfold wi
 rw[←Int.natCast_add,wrap_nat,BitVec.toNat_add]
theorem wi_and(a b:W32):bits .and .u32 (wi a) (wi b)=wi (a &&& b):=by
 show IntKind.u32.wrap ((BitVec.ofInt 32 (wi a) &&& BitVec.ofInt 32 (wi b)).toNat:Nat)=_
 rw[ofInt_wi,ofInt_wi,wrap_nat,q123 (a &&& b).isLt]
 rfl
theorem wi_or(a b:W32):bits .or .u32 (wi a) (wi b)=wi (a|||b):=by
 show IntKind.u32.wrap ((BitVec.ofInt 32 (wi a)|||BitVec.ofInt 32 (wi b)).toNat:Nat)=_
 rw[ofInt_wi,ofInt_wi,wrap_nat,q123 (a|||b).isLt]
 rfl
theorem zdm(a b:W32):bits .xor .u32 (wi a) (wi b)=wi (a^^^b):=by
 show IntKind.u32.wrap ((BitVec.ofInt 32 (wi a)^^^BitVec.ofInt 32 (wi b)).toNat:Nat)=_
 rw[ofInt_wi,ofInt_wi,wrap_nat,q123 (a^^^b).isLt]
 rfl
theorem wi_shr(a:W32)(n:Nat):wi a / 2^n=wi (a>>>n):=by
 unfold wi
 rw[BitVec.toNat_ushiftRight,Nat.shiftRight_eq_div_pow]
 simp
theorem wi_shl(a:W32)(n:Nat):IntKind.u32.wrap (wi a*2^n)=wi (a<<<n):=by
 unfold wi
 have e:((a.toNat:Int)*2^n)=((a.toNat*2^n:Nat):Int):=by simp
 rw[e,wrap_nat,BitVec.toNat_shiftLeft,Nat.shiftLeft_eq]
def rotr(a:W32)(n:Nat):W32:=a>>>n|||a<<<(32 - n)
theorem wi_rotr(a:W32)(n:Nat):bits .or .u32 (wi a / 2^n) (IntKind.u32.wrap (wi a*2^(32 - n)))=wi (rotr a n):=by
 rw[wi_shr,wi_shl,wi_or]
 rfl
def ws(l:List W32):List Int:=l.map wi
theorem zaw(l:List W32):(ws l).length=l.length:=by simp[ws]
theorem zea(l:List W32)(i:Nat):(ws l).getD i 0=wi (l.getD i 0#32):=by
 unfold ws
 simp only[List.getD,List.getElem?_map]
 cases l[i]? <;>simp[wi]
theorem ws_set(l:List W32)(i:Nat)(b:W32):(ws l).set i (wi b)=ws (l.set i b):=by
 unfold ws
 rw[q141]
theorem ws_zeros(n:Nat):ws (List.replicate n 0#32)=List.replicate n 0:=by simp[ws,wi]
def beW(m:List UInt8)(k:Nat):W32:=BitVec.ofNat 32 (16777216*(m.getD k 0).toNat+65536*(m.getD (k+1) 0).toNat+256*(m.getD (k+2) 0).toNat+(m.getD (k+3) 0).toNat)
def wTop(m:List UInt8)(start:Nat):Nat→List W32
 |0=>List.replicate 64 0#32
 |k+1=>(wTop m start k).set k (beW m (start+4*k))
def sg0(x:W32):W32:=rotr x 7^^^rotr x 18^^^x>>>3
def sg1(x:W32):W32:=rotr x 17^^^rotr x 19^^^x>>>10
def wNext(l:List W32)(i:Nat):W32:=l.getD (i - 16) 0#32+sg0 (l.getD (i - 15) 0#32)+l.getD (i - 7) 0#32+sg1 (l.getD (i - 2) 0#32)
def wSch(m:List UInt8)(start:Nat):Nat→List W32
 |0=>wTop m start 16
 |n+1=>(wSch m start n).set (16+n) (wNext (wSch m start n) (16+n))
theorem wTop_length(m:List UInt8)(start:Nat):∀k,(wTop m start k).length=64
 |0=>by simp[wTop]
 |k+1=>by simp[wTop,wTop_length m start k]
theorem zdj(m:List UInt8)(start:Nat):∀k,(wSch m start k).length=64
 |0=>wTop_length m start 16
 |k+1=>by simp[wSch,zdj m start k]
def rnd(v:List W32)(k w:W32):List W32:=
 let e:=v.getD 4 0#32
 let a:=v.getD 0 0#32
 let t:=v.getD 7 0#32+(rotr e 6^^^rotr e 11^^^rotr e 25)+(e &&& v.getD 5 0#32^^^~~~e &&& v.getD 6 0#32)+k+w
 let u:=(rotr a 2^^^rotr a 13^^^rotr a 22)+(a &&& v.getD 1 0#32^^^a &&& v.getD 2 0#32^^^v.getD 1 0#32 &&& v.getD 2 0#32)
 [t+u,a,v.getD 1 0#32,v.getD 2 0#32,v.getD 3 0#32+t,e,v.getD 5 0#32,v.getD 6 0#32]
def K256:List W32:=[0x428a2f98,0x71374491,0xb5c0fbcf,0xe9b5dba5,0x3956c25b,0x59f111f1,0x923f82a4,0xab1c5ed5,
 0xd807aa98,0x12835b01,0x243185be,0x550c7dc3,0x72be5d74,0x80deb1fe,0x9bdc06a7,0xc19bf174,
 0xe49b69c1,0xefbe4786,0x0fc19dc6,0x240ca1cc,0x2de92c6f,0x4a7484aa,0x5cb0a9dc,0x76f988da,
 0x983e5152,0xa831c66d,0xb00327c8,0xbf597fc7,0xc6e00bf3,0xd5a79147,0x06ca6351,0x14292967,
 0x27b70a85,0x2e1b2138,0x4d2c6dfc,0x53380d13,0x650a7354,0x766a0abb,0x81c2c92e,0x92722c85,
 0xa2bfe8a1,0xa81a664b,0xc24b8b70,0xc76c51a3,0xd192e819,0xd6990624,0xf40e3585,0x106aa070,
 0x19a4c116,0x1e376c08,0x2748774c,0x34b0bcb5,0x391c0cb3,0x4ed8aa4a,0x5b9cca4f,0x682e6ff3,
 0x748f82ee,0x78a5636f,0x84c87814,0x8cc70208,0x90befffa,0xa4506ceb,0xbef9a3f7,0xc67178f2]
def H256:List W32:=[0x6a09e667,0xbb67ae85,0x3c6ef372,0xa54ff53a,0x510e527f,0x9b05688c,0x1f83d9ab,0x5be0cd19]
def vRun(h w:List W32):Nat→List W32
 |0=>h
 |i+1=>rnd (vRun h w i) (K256.getD i 0#32) (w.getD i 0#32)
theorem vRun_length(h w:List W32)(a:h.length=8):∀i,(vRun h w i).length=8
 |0=>a
 |i+1=>rfl
def hAdd(h v:List W32):Nat→List W32
 |0=>h
 |k+1=>(hAdd h v k).set k ((hAdd h v k).getD k 0#32+v.getD k 0#32)
theorem hAdd_length(h v:List W32):∀k,(hAdd h v k).length=h.length
 |0=>rfl
 |k+1=>by simp[hAdd,hAdd_length h v k]
def hRun(m:List UInt8):Nat→List W32
 |0=>H256
 |n+1=>hAdd (hRun m n) (vRun (hRun m n) (wSch m (64*n) 48) 64) 8
theorem zcz(m:List UInt8):∀n,(hRun m n).length=8
 |0=>rfl
 |n+1=>by rw[hRun,hAdd_length,zcz m n]
def padN(n:Nat):Nat:=(119 - n%64)%64
def beB:Nat→Nat→List UInt8
 |0,_=>[]
 |k+1,n=>UInt8.ofNat (n / 256^k%256)::beB k n
def padded(b:List UInt8):List UInt8:=b++[128]++List.replicate (padN b.length) 0++beB 8 (8*b.length)
theorem zdz:∀k n,(beB k n).length=k
 |0,_=>rfl
 |k+1,n=>by simp[beB,zdz k n]
theorem padded_length(b:List UInt8):(padded b).length=64*((b.length+72) / 64):=by
 simp only[padded,padN,q105,q112,zdz,q106,q121]
 omega
def outB(h:List W32):List UInt8:=(List.range 32).map fun i=>UInt8.ofNat ((h.getD (i / 4) 0#32).toNat / 2^(24 - 8*(i%4))%256)
theorem outB_length(h:List W32):(outB h).length=32:=by simp[outB]
def sha256(b:List UInt8):List UInt8:=outB (hRun (padded b) ((b.length+72) / 64))
theorem zbc(b:List UInt8):(sha256 b).length=32:=outB_length _
def beN(m:List UInt8)(k:Nat):Nat→Nat
 |0=>0
 |n+1=>256*beN m k n+(m.getD (k+n) 0).toNat
theorem beN_lt(m:List UInt8)(k:Nat):∀n,beN m k n<256^n
 |0=>by simp[beN]
 |n+1=>by
  have h1:=beN_lt m k n
  have h2:=(m.getD (k+n) 0).toNat_lt
  simp only[beN,q132]
  omega
def beQ(m:List UInt8)(k:Nat):Q64:=BitVec.ofNat 64 (beN m k 8)
def qTop(m:List UInt8)(start:Nat):Nat→List Q64
 |0=>List.replicate 80 0#64
 |k+1=>(qTop m start k).set k (beQ m (start+8*k))
def tg0(x:Q64):Q64:=rotq x 1^^^rotq x 8^^^x>>>7
def tg1(x:Q64):Q64:=rotq x 19^^^rotq x 61^^^x>>>6
def qNext(l:List Q64)(i:Nat):Q64:=l.getD (i - 16) 0#64+tg0 (l.getD (i - 15) 0#64)+l.getD (i - 7) 0#64+tg1 (l.getD (i - 2) 0#64)
def qSch(m:List UInt8)(start:Nat):Nat→List Q64
 |0=>qTop m start 16
 |n+1=>(qSch m start n).set (16+n) (qNext (qSch m start n) (16+n))
theorem qTop_length(m:List UInt8)(start:Nat):∀k,(qTop m start k).length=80
 |0=>by simp[qTop]
 |k+1=>by simp[qTop,qTop_length m start k]
theorem qSch_length(m:List UInt8)(start:Nat):∀k,(qSch m start k).length=80
 |0=>qTop_length m start 16
 |k+1=>by simp[qSch,qSch_length m start k]
def rndq(v:List Q64)(k w:Q64):List Q64:=
 let e:=v.getD 4 0#64
 let a:=v.getD 0 0#64
 let t:=v.getD 7 0#64+(rotq e 14^^^rotq e 18^^^rotq e 41)+(e &&& v.getD 5 0#64^^^~~~e &&& v.getD 6 0#64)+k+w
 let u:=(rotq a 28^^^rotq a 34^^^rotq a 39)+(a &&& v.getD 1 0#64^^^a &&& v.getD 2 0#64^^^v.getD 1 0#64 &&& v.getD 2 0#64)
 [t+u,a,v.getD 1 0#64,v.getD 2 0#64,v.getD 3 0#64+t,e,v.getD 5 0#64,v.getD 6 0#64]
def K512:List Q64:=[0x428a2f98d728ae22,0x7137449123ef65cd,0xb5c0fbcfec4d3b2f,0xe9b5dba58189dbbc,0x3956c25bf348b538,0x59f111f1b605d019,0x923f82a4af194f9b,0xab1c5ed5da6d8118,0xd807aa98a3030242,0x12835b0145706fbe,0x243185be4ee4b28c,0x550c7dc3d5ffb4e2,0x72be5d74f27b896f,0x80deb1fe3b1696b1,0x9bdc06a725c71235,0xc19bf174cf692694,0xe49b69c19ef14ad2,0xefbe4786384f25e3,0x0fc19dc68b8cd5b5,0x240ca1cc77ac9c65,0x2de92c6f592b0275,0x4a7484aa6ea6e483,0x5cb0a9dcbd41fbd4,0x76f988da831153b5,0x983e5152ee66dfab,0xa831c66d2db43210,0xb00327c898fb213f,0xbf597fc7beef0ee4,0xc6e00bf33da88fc2,0xd5a79147930aa725,0x06ca6351e003826f,0x142929670a0e6e70,0x27b70a8546d22ffc,0x2e1b21385c26c926,0x4d2c6dfc5ac42aed,0x53380d139d95b3df,0x650a73548baf63de,0x766a0abb3c77b2a8,0x81c2c92e47edaee6,0x92722c851482353b,0xa2bfe8a14cf10364,0xa81a664bbc423001,0xc24b8b70d0f89791,0xc76c51a30654be30,0xd192e819d6ef5218,0xd69906245565a910,0xf40e35855771202a,0x106aa07032bbd1b8,0x19a4c116b8d2d0c8,0x1e376c085141ab53,0x2748774cdf8eeb99,0x34b0bcb5e19b48a8,0x391c0cb3c5c95a63,0x4ed8aa4ae3418acb,0x5b9cca4f7763e373,0x682e6ff3d6b2b8a3,0x748f82ee5defb2fc,0x78a5636f43172f60,0x84c87814a1f0ab72,0x8cc702081a6439ec,0x90befffa23631e28,0xa4506cebde82bde9,0xbef9a3f7b2c67915,0xc67178f2e372532b,0xca273eceea26619c,0xd186b8c721c0c207,0xeada7dd6cde0eb1e,0xf57d4f7fee6ed178,0x06f067aa72176fba,0x0a637dc5a2c898a6,0x113f9804bef90dae,0x1b710b35131c471b,0x28db77f523047d84,0x32caab7b40c72493,0x3c9ebe0a15c9bebc,0x431d67c49c100d4c,0x4cc5d4becb3e42b6,0x597f299cfc657e2a,0x5fcb6fab3ad6faec,0x6c44198c4a475817]
def H512:List Q64:=[0x6a09e667f3bcc908,0xbb67ae8584caa73b,0x3c6ef372fe94f82b,0xa54ff53a5f1d36f1,0x510e527fade682d1,0x9b05688c2b3e6c1f,0x1f83d9abfb41bd6b,0x5be0cd19137e2179]
def qRun(h w:List Q64):Nat→List Q64
 |0=>h
 |i+1=>rndq (qRun h w i) (K512.getD i 0#64) (w.getD i 0#64)
theorem qRun_length(h w:List Q64)(a:h.length=8):∀i,(qRun h w i).length=8
 |0=>a
 |i+1=>rfl
def qAdd(h v:List Q64):Nat→List Q64
 |0=>h
 |k+1=>(qAdd h v k).set k ((qAdd h v k).getD k 0#64+v.getD k 0#64)
theorem qAdd_length(h v:List Q64):∀k,(qAdd h v k).length=h.length
 |0=>rfl
 |k+1=>by simp[qAdd,qAdd_length h v k]
def gRun(m:List UInt8):Nat→List Q64
 |0=>H512
 |n+1=>qAdd (gRun m n) (qRun (gRun m n) (qSch m (128*n) 64) 80) 8
theorem gRun_length(m:List UInt8):∀n,(gRun m n).length=8
 |0=>rfl
 |n+1=>by rw[gRun,qAdd_length,gRun_length m n]
def padQ(n:Nat):Nat:=(239 - n%128)%128
def paddedQ(b:List UInt8):List UInt8:=b++[128]++List.replicate (padQ b.length) 0++beB 16 (8*b.length)
theorem paddedQ_length(b:List UInt8):(paddedQ b).length=128*((b.length+144) / 128):=by
 simp only[paddedQ,padQ,q105,q112,zdz,q106,q121]
 omega
def outQ(h:List Q64):List UInt8:=(List.range 64).map fun i=>UInt8.ofNat ((h.getD (i / 8) 0#64).toNat / 2^(56 - 8*(i%8))%256)
theorem outQ_length(h:List Q64):(outQ h).length=64:=by simp[outQ]
def sha512(b:List UInt8):List UInt8:=outQ (gRun (paddedQ b) ((b.length+144) / 128))
theorem zdw(b:List UInt8):(sha512 b).length=64:=outQ_length _
def qQ:Int:=7237005577332262213973186563042994240857116359379907606001950938285454250989
def sgn(x:List Int):Int:=if x.getD 8 0<0 then 1 else 0
def nq(x:Int):List UInt8:=bytesN 32 (x%qQ).toNat
theorem nq_length(x:Int):(nq x).length=32:=zaq _ _
def aLim(x y:List Int):Nat→List Int
 |0=>x
 |k+1=>(aLim x y k).set k ((aLim x y k).getD k 0+y.getD k 0)
theorem aLim_length(x y:List Int):∀k,(aLim x y k).length=x.length
 |0=>rfl
 |k+1=>by simp[aLim,aLim_length x y k]
def mRow(p x y:List Int)(i:Nat):Nat→List Int
 |0=>p
 |j+1=>(mRow p x y i j).set (i+j) ((mRow p x y i j).getD (i+j) 0+x.getD i 0*y.getD j 0)
theorem mRow_length(p x y:List Int)(i:Nat):∀j,(mRow p x y i j).length=p.length
 |0=>rfl
 |j+1=>by simp[mRow,mRow_length p x y i j]
theorem mRow_far(p x y:List Int)(i:Nat):∀j k,i+j≤k→(mRow p x y i j).getD k 0=p.getD k 0
 |0,_,_=>rfl
 |j+1,k,h=>by
  simp only[mRow]
  rw[zae (by omega)]
  exact mRow_far p x y i j k (by omega)
theorem mul_range {a b M:Int}(h1:0≤a)(h2:a≤M)(c:0≤b)(d:b≤M):0≤a*b∧a*b≤M*M:=
 ⟨q155 h1 c,Int.mul_le_mul h2 d c (by omega)⟩
def encB(P:Pt):List UInt8:=bytesN 32 (enc P)
theorem encB_length(P:Pt):(encB P).length=32:=zaq _ _
theorem leN_encB(P:Pt):leN (encB P)=enc P:=by
 unfold encB
 rw[zem,q123 (Nat.lt_of_lt_of_eq (enc_lt P) (by decide+kernel))]
theorem encB_inj {P Q:Pt}(h:encB P=encB Q):P=Q:=enc_inj (by rw[←leN_encB,←leN_encB,h])
def secA(s:List UInt8):List UInt8:=clampB ((sha512 s).take 32)
def secH(s:List UInt8):List UInt8:=(sha512 s).drop 32
def wideB(m:List UInt8):List UInt8:=nq (leN (sha512 m):Nat)
theorem wideB_length(m:List UInt8):(wideB m).length=32:=nq_length _
def edPub(s:List UInt8):List UInt8:=encB (pmul (leN (secA s)) bP)
theorem zdh(s:List UInt8):(edPub s).length=32:=encB_length _
def edNum(s m:List UInt8):List UInt8:=wideB (secH s++m)
def edR(s m:List UInt8):List UInt8:=encB (pmul (leN (edNum s m)) bP)
theorem edR_length(s m:List UInt8):(edR s m).length=32:=encB_length _
def edS(s m:List UInt8):List UInt8:=nq ((leN (edNum s m):Nat)+(leN (nq ((leN (wideB (edR s m++(edPub s++m))):Nat)*(leN (secA s):Nat))):Nat))
theorem edS_length(s m:List UInt8):(edS s m).length=32:=nq_length _
def edSign(s m:List UInt8):List UInt8:=edR s m++edS s m
theorem zet(s m:List UInt8):(edSign s m).length=64:=by
 unfold edSign
 rw[q105,edR_length,edS_length]
def edMay(n:List UInt8):Prop:=∃P,encB P=n
theorem may_pub(s:List UInt8):edMay (edPub s):=⟨_,rfl⟩
theorem getD_set_self(l:List UInt8)(i:Nat)(v:UInt8)(h:i<l.length):(l.set i v).getD i 0=v:=by
 rw[List.getD_eq_getElem?_getD,List.getElem?_set_self h]
 rfl
theorem may_above {l:List UInt8}(h:pN≤leN l%2^255):¬edMay l:=by
 rintro⟨P,rfl⟩
 rw[leN_encB,enc_y]at h
 have:=P.y.isLt
 omega
noncomputable def mayB(n:List UInt8):Bool:=@decide (edMay n) (Classical.propDecidable _)
theorem mayB_true {n:List UInt8}(h:edMay n):mayB n=true:=@decide_eq_true _ (Classical.propDecidable _) h
theorem mayB_false {n:List UInt8}(h:¬edMay n):mayB n=false:=@decide_eq_false _ (Classical.propDecidable _) h
theorem is_x {s:ES} {P:Pt}(h:s.is P):s.x*fi s.z=P.x:=by
 obtain⟨h0,h1,h2,a⟩:=h
 rw[h1,Fin.mul_assoc,f_inv h0,Fin.mul_one]
theorem is_y {s:ES} {P:Pt}(h:s.is P):s.y*fi s.z=P.y:=by
 obtain⟨h0,h1,h2,a⟩:=h
 rw[h2,Fin.mul_assoc,f_inv h0,Fin.mul_one]
theorem leN_set:∀(l:List UInt8) (i:Nat) (z:UInt8),i<l.length→leN (l.set i z)+256^i*(l.getD i 0).toNat=leN l+256^i*z.toNat
 |[],i,z,h=>by simp at h
 |a::l,0,z,h=>by
  simp only[q150,leN,List.getD_cons_zero,Nat.pow_zero,Nat.one_mul]
  omega
 |a::l,i+1,z,h=>by
  have d:=leN_set l i z (by simpa using h)
  simp only[q152,leN,List.getD_cons_succ,q132]
  have b:256^i*256*(l.getD i 0).toNat=256*(256^i*(l.getD i 0).toNat):=by rw[q134 (256^i) 256,Nat.mul_assoc]
  have c:256^i*256*z.toNat=256*(256^i*z.toNat):=by rw[q134 (256^i) 256,Nat.mul_assoc]
  rw[b,c]
  omega
theorem u8_or128(b:UInt8)(h:b.toNat<128):(b|||128).toNat=b.toNat+128:=by
 have a:∀n:Fin 128,((UInt8.ofNat n.val)|||128).toNat=n.val+128:=by decide+kernel
 have:=a ⟨b.toNat,h⟩
 simpa using this
theorem set_high {f:Fp}:(nbF f).set 31 ((nbF f).getD 31 0|||128)=bytesN 32 (f.val+2^255):=by
 have c:=zca f
 have h1:=leN_set (nbF f) 31 ((nbF f).getD 31 0|||128) (by omega)
 rw[u8_or128 _ (nbF_top f)]at h1
 have h2:leN (nbF f)=f.val:=by
  unfold nbF
  rw[zem,q123 (Nat.lt_trans f.isLt (by decide+kernel))]
 have e:(256:Nat)^31*128=2^255:=by decide+kernel
 rw[Nat.mul_add,e,h2]at h1
 have b:leN ((nbF f).set 31 ((nbF f).getD 31 0|||128))=f.val+2^255:=by omega
 have a:=bytesN_leN ((nbF f).set 31 ((nbF f).getD 31 0|||128))
 rw[b,q125,c]at a
 exact a.symm
theorem nbF_odd(f:Fp):((nbF f).getD 0 0).toNat%2=f.val%2:=by
 unfold nbF
 rw[zdl 32 f.val 0 (by omega)]
 omega
theorem enc_odd {P:Pt}(h:P.x.val%2=1):(nbF P.y).set 31 ((nbF P.y).getD 31 0|||128)=encB P:=by
 rw[set_high]
 unfold encB enc
 rw[h,q148]
theorem enc_even {P:Pt}(h:P.x.val%2=0):(nbF P.y).set 31 ((nbF P.y).getD 31 0|||0)=encB P:=by
 rw[UInt8.or_zero]
 have e:(nbF P.y).set 31 ((nbF P.y).getD 31 0)=nbF P.y:=by
  have:=mask_id (zca P.y) (nbF_top P.y)
  unfold maskB at this
  rwa [u8_mask _ (nbF_top P.y)]at this
 rw[e]
 unfold encB enc
 rw[h,Nat.mul_zero,q149]
 rfl
def yB(n:List UInt8):List UInt8:=maskB n
def bitN(n:List UInt8):Nat:=(n.getD 31 0).toNat / 128
theorem bitN_lt(n:List UInt8):bitN n<2:=by
 have:=(n.getD 31 0).toNat_lt
 unfold bitN
 omega
theorem u8_and127(b:UInt8):(b &&& 127).toNat+128*(b.toNat / 128)=b.toNat:=by
 have a:∀n:Fin 256,((UInt8.ofNat n.val) &&& 127).toNat+128*(n.val / 128)=n.val:=by decide+kernel
 have:=a ⟨b.toNat,b.toNat_lt⟩
 simpa using this
theorem leN_y {n:List UInt8}(h:n.length=32):leN n=leN (yB n)+2^255*bitN n:=by
 have h1:=leN_set n 31 (n.getD 31 0 &&& 127) (by omega)
 have h2:=u8_and127 (n.getD 31 0)
 have e:(256:Nat)^31*128=2^255:=by decide+kernel
 unfold yB maskB bitN
 rw[←e,Nat.mul_assoc]
 rw[←h2,Nat.mul_add]at h1
 omega
theorem leN_yB_lt {n:List UInt8}(h:n.length=32):leN (yB n)<2^255:=by
 refine leN_top (maskB_length h) ?_
 unfold yB maskB
 rw[getD_set_self _ 31 _ (by omega)]
 have a:∀m:Fin 256,((UInt8.ofNat m.val) &&& 127).toNat<128:=by decide+kernel
 have:=a ⟨(n.getD 31 0).toNat,(n.getD 31 0).toNat_lt⟩
 simpa using this
theorem may_no_y {n:List UInt8}(h:n.length=32)(a:pN≤leN (yB n)):¬edMay n:=by
 refine may_above ?_
 rw[leN_y h,Nat.add_mul_mod_self_left,q123 (leN_yB_lt h)]
 exact a
theorem fp_y {n:List UInt8}(a:leN (yB n)<pN):(fp ((leN (yB n):Nat):Int)).val=leN (yB n):=by
 rw[fp_val]
 have e:pP=((pN:Nat):Int):=by decide+kernel
 rw[e,←Int.natCast_emod,Int.toNat_natCast,q123 a]
theorem may_no_root {n:List UInt8}(h:n.length=32)(c:leN (yB n)<pN)(b:∀x:Fp,x*x≠rad (fp ((leN (yB n):Nat):Int))):¬edMay n:=by
 rintro⟨P,rfl⟩
 refine no_point (y:=fp ((leN (yB (encB P)):Nat):Int)) (bitN_lt (encB P)) (fun x a=>absurd a (b x)) P ?_
 rw[fp_y c,←leN_y h,leN_encB]
theorem may_no_bit {n:List UInt8}(h:n.length=32)(d:leN (yB n)<pN)(c:bitN n=1)(b:rad (fp ((leN (yB n):Nat):Int))=0):¬edMay n:=by
 rintro⟨P,rfl⟩
 refine no_point (y:=fp ((leN (yB (encB P)):Nat):Int)) (bitN_lt (encB P)) (fun x a=>⟨?_,c⟩) P ?_
 ·rw[b]at a
  rcases f_dom a with h|h<;>exact h
 rw[fp_y d,←leN_y h,leN_encB]
theorem read_enc {n:List UInt8}(h:n.length=32)(b:leN (yB n)<pN) {x:Fp}(a:x*x=rad (fp ((leN (yB n):Nat):Int)))(h0:¬(x=0∧bitN n=1)):encB (readP x (fp ((leN (yB n):Nat):Int)) (bitN n) a)=n:=by
 unfold encB
 rw[readP_enc a (bitN_lt n) h0,fp_y b,←leN_y h]
 have:=bytesN_leN n
 rwa [h]at this
section
section
variable {P:Program} {ops:Array Oper} {Q:Exit→Act→World→Prop} {md:Region.Mode} {t:Nat} {C:World→Prop} {D:Act→Prop}
theorem det_loadk {o:Oper} {rest:List Oper} {a:Act}(ty:TypeId)(x:Operand)(c k:Nat)(b:List Value)(d:TypeDesc)(e:Region.wanted o (yielded ops a.tmps)=true)(f:o.op=.load ty x)
  (j:a.eval x=.pointer (some ⟨c,k,none⟩)) (g:∀w,C w→w.rangeAt c k b) (m:P.underlying ty=some d) (l:d.isRow=true) (i:(P.info? ty).map (·.size)=some b.length)
  (next:wpDet P ops C D rest (a.put o.dst (.agg b.toArray))):wpDet P ops C D (o::rest) a:=by
 rcases yieldsIf_load_mid (S:=C) e ty x f c k j b d g m l i with⟨_,h⟩|⟨h,_⟩
 ·exact zde _ e h next
 rw[e]at h;cases h
end
theorem rng_lo {w:World} {c o:Nat} {a b:List Value}(h:w.rangeAt c o (a++b)):w.rangeAt c o a:=fun j v d=>by
 have f:j<a.length:=by
  rcases q114 j a.length with e|e
  ·exact e
  rw[List.getElem?_eq_none e]at d;cases d
 exact h j v (by rw[List.getElem?_append_left f];exact d)
theorem rng_hi {w:World} {c o m k:Nat} {a b:List Value}(h:w.rangeAt c o (a++b))(d:a.length=m)(f:o+m=k):w.rangeAt c k b:=fun j v g=>by
 have e:=h (m+j) v (by rw[List.getElem?_append_right (by omega),←d,Nat.add_sub_cancel_left];exact g)
 rw[←Nat.add_assoc,f]at e
 exact e
end
section
theorem xxb {w a:World} {c:Nat} {l:List Value} {t:TypeId}(H:Hid (Blk w c l t))(h:Ext w a):Hid (Blk a c l t):=jh (zak H.out h)
theorem xq2 {w a:World} {d:Nat} {b:List Value} {f:TypeId} {c1:Nat} {e:List Value} {c:TypeId}(h0:Hid (Blk w d b f))(h1:Hid (Blk w c1 e c))(h:Ext w a):Hid (Blk a d b f)∧Hid (Blk a c1 e c):=⟨xxb h0 h,xxb h1 h⟩
theorem xq3 {w a:World} {f:Nat} {d:List Value} {i:TypeId} {c1:Nat} {g:List Value} {e:TypeId} {c2:Nat} {c:List Value} {b:TypeId}(h0:Hid (Blk w f d i))(h1:Hid (Blk w c1 g e))(h2:Hid (Blk w c2 c b))(h:Ext w a):Hid (Blk a f d i)∧Hid (Blk a c1 g e)∧Hid (Blk a c2 c b):=⟨xxb h0 h,xxb h1 h,xxb h2 h⟩
theorem xq4 {w a:World} {i:Nat} {d:List Value} {k:TypeId} {c1:Nat} {j:List Value} {e:TypeId} {c2:Nat} {f:List Value} {c:TypeId} {c3:Nat} {g:List Value} {b:TypeId}(h0:Hid (Blk w i d k))(h1:Hid (Blk w c1 j e))(h2:Hid (Blk w c2 f c))(l:Hid (Blk w c3 g b))(h:Ext w a):Hid (Blk a i d k)∧Hid (Blk a c1 j e)∧Hid (Blk a c2 f c)∧Hid (Blk a c3 g b):=⟨xxb h0 h,xxb h1 h,xxb h2 h,xxb l h⟩
theorem xq5 {w a:World} {l:Nat} {f:List Value} {c:TypeId} {c1:Nat} {m:List Value} {g:TypeId} {c2:Nat} {i:List Value} {e:TypeId} {c3:Nat} {k:List Value} {d:TypeId} {j:Nat} {b:List Value} {n:TypeId}(h0:Hid (Blk w l f c))(h1:Hid (Blk w c1 m g))(h2:Hid (Blk w c2 i e))(p:Hid (Blk w c3 k d))(q:Hid (Blk w j b n))(h:Ext w a):Hid (Blk a l f c)∧Hid (Blk a c1 m g)∧Hid (Blk a c2 i e)∧Hid (Blk a c3 k d)∧Hid (Blk a j b n):=⟨xxb h0 h,xxb h1 h,xxb h2 h,xxb p h,xxb q h⟩
theorem xq6 {w a:World} {d:Nat} {m:List Value} {r:TypeId} {c1:Nat} {e:List Value} {f:TypeId} {c2:Nat} {p:List Value} {l:TypeId} {c3:Nat} {c:List Value} {b:TypeId} {q:Nat} {n:List Value} {j:TypeId} {g:Nat} {k:List Value} {i:TypeId}(h0:Hid (Blk w d m r))(h1:Hid (Blk w c1 e f))(h2:Hid (Blk w c2 p l))(u:Hid (Blk w c3 c b))(s:Hid (Blk w q n j))(t:Hid (Blk w g k i))(h:Ext w a):Hid (Blk a d m r)∧Hid (Blk a c1 e f)∧Hid (Blk a c2 p l)∧Hid (Blk a c3 c b)∧Hid (Blk a q n j)∧Hid (Blk a g k i):=⟨xxb h0 h,xxb h1 h,xxb h2 h,xxb u h,xxb s h,xxb t h⟩
theorem xxt {w a b:World}(H:Hid (Ext w a))(h:Ext a b):Hid (Ext w b):=jh (H.o.trans h)
theorem ssb {P:Program} {w:World} {f:Array Oper} {rest:List Oper} {o:Oper} {a:Act} {Q:Exit→Act→World→Prop} {ty:TypeId} {x y:Operand} {t:TypeId} {e:List Value}(c:Nat)(b:List Value)(i:Blk w c e t)(m:b.length=e.length)(j:(P.info? ty).map (·.size)=some b.length)(h1:∀v∈b,v.oneCell'=true)
  (h:∀d,Blk d c b t→w.grownBy d (some c)→wpList P f Q rest (a.put o.dst undef) d) (n:o.guard=none:=by rfl) (g:o.op=.store ty x y:=by rfl) (k:a.eval x=.pointer (some ⟨c,0,none⟩):=by rfl) (l:a.eval y=.agg b.toArray:=by rfl):wpList P f Q (o::rest) a w:=
 zal n ty x y g c b k l t e i m j h1 h
theorem slb {P:Program} {w:World} {d:Array Oper} {rest:List Oper} {o:Oper} {a:Act} {Q:Exit→Act→World→Prop} {ty:TypeId} {x:Operand} {t:TypeId} {b:List Value} {n:Nat} {e:TypeId}(c:Nat)(g:Blk w c b t)(l:P.underlying ty=some (.array n e))(i:(P.info? ty).map (·.size)=some b.length)
  (h:wpList P d Q rest (a.put o.dst (.agg b.toArray)) w) (j:o.guard=none:=by rfl) (f:o.op=.load ty x:=by rfl) (k:a.eval x=.pointer (some ⟨c,0,none⟩):=by rfl):wpList P d Q (o::rest) a w:=
 zbd j ty x f c k t b n e g l i h
theorem sld {P:Program} {f:Array Oper} {S:World→Prop} {e:Oper} {a:Act} {ty:TypeId} {x:Operand} {c:List Value} {d:TypeDesc}(b o:Nat)(k:∀w,S w→w.rangeAt b o c)(m:P.underlying ty=some d)(i:(P.info? ty).map (·.size)=some c.length)
  (h:Region.wanted e (yielded f a.tmps)=true:=by rfl) (g:e.op=.load ty x:=by rfl) (j:a.eval x=.pointer (some ⟨b,o,none⟩):=by rfl) (l:d.isRow=true:=by rfl):YieldsIf P f S e (.agg c.toArray) a:=
 yieldsIf_load_mid h ty x g b o j c d k m l i
section
variable {P:Program} {ops:Array Oper} {C:World→Prop} {D:Act→Prop} {o:Oper} {rest:List Oper} {a:Act}
theorem sdc {f:FuncId} {b:Array Operand} {c:Array TypeId}(args:List Value)(v:Value)(j:∀args w,(callFunc f args).run P w=.ok (.enter f args) w)(i:∀w,C w→Calls P f args.toArray w fun e d=>e=.returned v∧Below w.heap.size w d)(next:wpDet P ops C D rest (a.put o.dst v))
  (h:Region.wanted o (yielded ops a.tmps)=true:=by rfl) (g:o.op=.call { callee:=.value (.func f),args:=b,argTypes:=c }:=by rfl) (k:b.toList.map a.eval=args:=by rfl):wpDet P ops C D (o::rest) a:=
 det_call f b c args v h g j k i next
theorem sdk {ty:TypeId} {x:Operand} {d:TypeDesc}(c k:Nat)(b:List Value)(f:∀w,C w→w.rangeAt c k b)(l:P.underlying ty=some d)(h:(P.info? ty).map (·.size)=some b.length)(next:wpDet P ops C D rest (a.put o.dst (.agg b.toArray)))
  (g:Region.wanted o (yielded ops a.tmps)=true:=by rfl) (e:o.op=.load ty x:=by rfl) (i:a.eval x=.pointer (some ⟨c,k,none⟩):=by rfl) (j:d.isRow=true:=by rfl):wpDet P ops C D (o::rest) a:=
 det_loadk ty x c k b d g e i f l j h next
theorem sdl {ty:TypeId} {x:Operand}(c k:Nat)(v:Value)(d:∀w,C w→w.cell? ⟨c,k,none⟩=some v)(g:∀w,(isAgg ty).run P w=.ok false w)(next:wpDet P ops C D rest (a.put o.dst v))
  (e:Region.wanted o (yielded ops a.tmps)=true:=by rfl) (b:o.op=.load ty x:=by rfl) (f:a.eval x=.pointer (some ⟨c,k,none⟩):=by rfl):wpDet P ops C D (o::rest) a:=
 det_cell ty x c k v e b f d g next
theorem sdi {ty e:TypeId} {x y:Operand}(c n j:Nat)(k:P.underlying ty=some (.array n e))(d:j<n)(g:∀w,(sizeOf e).run P w=.ok 1 w)(next:wpDet P ops C D rest (a.put o.dst (.pointer (some ⟨c,j,none⟩))))
  (f:Region.wanted o (yielded ops a.tmps)=true:=by rfl) (b:o.op=.indexAddr ty x y:=by rfl) (h:a.eval x=.pointer (some ⟨c,0,none⟩):=by rfl) (i:a.eval y=.int .i64 (j:Int):=by rfl):wpDet P ops C D (o::rest) a:=
 det_index ty e x y c n j f b h i k d g next
end
theorem swf {P:Program} {b:Array Oper} {Q:Exit→Act→World→Prop} {id:Nat} {a:Act} {w:World}(d m t:Nat)(h:wpDet P b (Ext w) (fun a'=>wpAnyB P .any b Q t m (listN d 0 (Array.replicate b.size false)) a' w.drew) (b.toList.take d) a)
  (f:b.size=d+m:=by rfl) (i:P.follows .mixedOrders=true:=by kernel_rfl) (g:Region.noSelect b=true:=by kernel_rfl) (e:∀d v c a w,Q (.panic c) (Act.put a d v) w→Q (.panic c) a w:=by exact fun d v c a w h=>by cases d<;>exact h)
  (j:detB .any b t d 0 (Array.replicate b.size false)=true:=by kernel_rfl):(Code.region id b true).wp P Q a w:=
 wp_region_from d m t f i g e j h
end
def ORD:List Int:=[237,211,245,92,26,99,18,88,214,156,247,162,222,249,222,20,0,0,0,0,0,0,0,0,0,0,0,0,0,0,0,16]
def ORDX:List Int:=ORD++[0]
theorem ORDX_val:gV 256 ORDX=qQ:=by decide+kernel
theorem ORD_all:∀z∈ORD,0≤z∧z<256:=by decide+kernel
theorem ORD_range(j:Nat):0≤ORD.getD j 0∧ORD.getD j 0<256:=by
 rcases q114 j ORD.length with h|h
 ·exact zce (P:=fun z=>0≤z∧z<256) ORD_all h
 rw[zeq h];omega
theorem ORDX_lo {j:Nat}(h:j<32):ORDX.getD j 0=ORD.getD j 0:=by
 unfold ORDX
 simp only[List.getD]
 rw[List.getElem?_append_left (show j<ORD.length from h)]
theorem ORDX_top:ORDX.getD 32 0=0:=rfl
def zcn:Nat:=7237005577332262213973186563042994240857116359379907606001950938285454250989
theorem qN_q:(zcn:Int)=qQ:=rfl
theorem qN_pos:0<zcn:=by unfold zcn;omega
theorem nq_nat(x:Nat):nq (x:Int)=bytesN 32 (x%zcn):=by
 unfold nq
 rw[←qN_q,←Int.natCast_emod,Int.toNat_natCast]
structure scl_LS(r m:List Int)(c:Int)(k:Nat):Prop where
 len:m.length=33
 dgs:∀j,j<k→0≤m.getD j 0∧m.getD j 0<256
 car:c=0∨c=1
 val:gV 256 (m.take k)=gV 256 (r.take k) - gV 256 (ORDX.take k)+c*256^k
theorem scl_LS.start {r:List Int}(h:r.length=33):scl_LS r r 0 0:=⟨h,fun j a=>by omega,Or.inl rfl,by simp[gV]⟩
theorem take_set_far {zs:List Int} {k:Nat} {z:Int}:(zs.set k z).take k=zs.take k:=by
 rw[List.take_set,List.set_eq_of_length_le (by simp;omega)]
theorem scl_LS.step {r m:List Int} {c:Int} {k:Nat}(h:scl_LS r m c k)(n:k<33)(z:r.length=33)(A:0≤r.getD k 0∧r.getD k 0<256)(t:0≤ORDX.getD k 0∧ORDX.getD k 0<256)(x:Int)(p:x=r.getD k 0 - c - ORDX.getD k 0):
  (x<0→∀y,y=x+256→scl_LS r (m.set k y) 1 (k+1))∧(¬x<0→∀y,y=x→scl_LS r (m.set k y) 0 (k+1)):=by
 obtain⟨h1,h2,u,s⟩:=h
 have key:∀(y d:Int),0≤y→y<256→(d=0∨d=1)→y=x+256*d→scl_LS r (m.set k y) d (k+1):=by
  intro y d l q i f
  refine⟨by simp[h1],fun j v=>?_,i,?_⟩
  ·by_cases e:j=k
   ·subst e
    rw[zai (by omega)]
    exact⟨l,q⟩
   rw[zae (by omega)]
   exact h2 j (by omega)
  rw[zcb _ _ _ (by simp[h1];omega),take_set_far,zai (by omega),zcb _ r k (by omega),zcb _ ORDX k (by show k<33;exact n),s,f,p,q124]
  generalize (256:Int)^k=X
  generalize gV 256 (r.take k)=R
  generalize gV 256 (ORDX.take k)=O
  generalize r.getD k 0=a
  generalize ORDX.getD k 0=b
  grind
 exact⟨fun g y f=>key y 1 (by omega) (by omega) (Or.inr rfl) (by omega),fun g y f=>key y 0 (by omega) (by omega) (Or.inl rfl) (by omega)⟩
theorem dig_val(n x:Nat)(h:x<256^n):gV 256 (dig n x)=(x:Int):=by rw[gV_dig,q123 h]
theorem dig_cut(n x k:Nat)(a:k<n):(dig n x).getD k 0=((x / 256^k%256:Nat):Int):=by
 have h:k<(bytesN n x).length:=by rw[zaq];exact a
 have e:(dig n x).getD k 0=(((bytesN n x).getD k 0).toNat:Int):=by
  unfold dig
  rw[getD_eq (by simpa using h),List.getElem_map]
  simp[List.getD,h]
 rw[e,zdl n x k a]
theorem scl_LS.done {m:List Int} {c:Int} {x:Nat}(h:scl_LS (dig 33 x) m c 33)(e:x<256^33):(c=1∧x<zcn)∨(c=0∧zcn≤x∧m=dig 33 (x - zcn)):=by
 obtain⟨h1,h2,a,j⟩:=h
 have g:m.take 33=m:=q108 (by omega)
 have b:(dig 33 x).take 33=dig 33 x:=q108 (by rw[zcr];omega)
 have f:ORDX.take 33=ORDX:=rfl
 rw[g,b,f,dig_val 33 x e,ORDX_val,←qN_q]at j
 have d:=gV_range (B:=256) (by omega) (zs:=m) (fun i k=>h2 i (by omega))
 rw[h1]at d
 generalize (256:Int)^33=P at*
 rcases a with rfl|rfl
 ·refine Or.inr ⟨rfl,by omega,dig_of h1 h2 (by omega)⟩
 exact Or.inl ⟨rfl,by omega⟩
structure DB(d z:List Int)(b c:Int)(k:Nat):Prop where
 len:z.length=33
 dgs:∀j,j<k→0≤z.getD j 0∧z.getD j 0<256
 car:c=0∨c=1
 val:gV 256 (z.take k)+c*256^k=2*gV 256 (d.take k)+b
 far:∀j,k≤j→z.getD j 0=d.getD j 0
theorem DB.start {d:List Int} {b:Int}(h:d.length=33)(a:b=0∨b=1):DB d d b b 0:=⟨h,fun j c=>by omega,a,by simp[gV],fun j _=>rfl⟩
theorem DB.step {d z:List Int} {b c:Int} {k:Nat}(h:DB d z b c k)(m:k<33)(p:d.length=33)(n:0≤d.getD k 0∧d.getD k 0<256):
  DB d (z.set k ((2*z.getD k 0+c)%256)) b ((2*z.getD k 0+c) / 256) (k+1):=by
 obtain⟨h1,h2,l,q,f⟩:=h
 have i:=f k (q101 _)
 rw[i]
 refine⟨by simp[h1],fun j g=>?_,by omega,?_,fun j g=>?_⟩
 ·by_cases e:j=k
  ·subst e
   rw[zai (by omega)]
   omega
  rw[zae (by omega)]
  exact h2 j (by omega)
 ·rw[zcb _ _ _ (by simp[h1];omega),take_set_far,zai (by omega),zcb _ d k (by omega),q124]
  have e:=Int.mul_ediv_add_emod (2*d.getD k 0+c) 256
  generalize (2*d.getD k 0+c) / 256=u at*
  generalize (2*d.getD k 0+c)%256=v at*
  generalize (256:Int)^k=X at*
  generalize gV 256 (z.take k)=Z at*
  generalize gV 256 (d.take k)=D at*
  generalize d.getD k 0=a at*
  have:Z=2*D+b - c*X:=by omega
  subst this
  have:v=2*a+c - 256*u:=by omega
  subst this
  grind
 rw[zae (by omega)]
 exact f j (by omega)
theorem DB.done {z:List Int} {c:Int} {x a:Nat}(h:DB (dig 33 x) z (a:Int) c 33)(e:x<256^33)(b:2*x+a<256^33):z=dig 33 (2*x+a):=by
 obtain⟨h1,h2,j,l,n⟩:=h
 have g:z.take 33=z:=q108 (by omega)
 have d:(dig 33 x).take 33=dig 33 x:=q108 (by rw[zcr];omega)
 rw[g,d,dig_val 33 x e]at l
 have m:=gV_range (B:=256) (by omega) (zs:=z) (fun i p=>h2 i (by omega))
 have k:((2*x+a:Nat):Int)<((256^33:Nat):Int):=Int.ofNat_lt.2 b
 have f:((256^33:Nat):Int)=(256:Int)^33:=by simp
 rw[f]at k
 clear e b g d f
 generalize (256:Int)^33=P at*
 refine dig_of h1 h2 ?_
 rcases j with rfl|rfl<;>omega
def upQ(E j:Nat):Nat:=E / 2^j%zcn
theorem upQ_lt(E j:Nat):upQ E j<zcn:=Nat.mod_lt _ qN_pos
theorem dig_zero:∀n,dig n 0=List.replicate n 0
 |0=>rfl
 |n+1=>by
  have:=dig_zero n
  unfold dig at this⊢
  simp only[bytesN,q139,List.replicate_succ,Nat.zero_div,this]
  rfl
theorem upQ_start(l:List UInt8):dig 33 (upQ (leN l) (8*l.length))=List.replicate 33 0:=by
 have h:=leN_lt l
 have e:(2:Nat)^(8*l.length)=256^l.length:=by rw[Nat.pow_mul]
 unfold upQ
 rw[e,q160 h,Nat.zero_mod]
 exact dig_zero 33
theorem upQ_step(E j:Nat):(2*upQ E (j+1)+E / 2^j%2)%zcn=upQ E j:=by
 have e:E / 2^j=2*(E / 2^(j+1))+E / 2^j%2:=by
  have:E / 2^(j+1)=E / 2^j / 2:=by rw[q172,←q132]
  rw[this]
  omega
 unfold upQ
 rw[Nat.add_mod,Nat.mul_mod_mod,←Nat.add_mod,←e]
theorem sub_once(y:Nat)(h:y<2*zcn):(if y<zcn then y else y - zcn)=y%zcn:=by
 split
 ·rw[q123 (by assumption)]
 rw[Nat.mod_eq_sub_mod (by omega),q123 (by omega)]
theorem leN_byte(l:List UInt8)(i:Nat)(h:i<l.length):(l.getD i 0).toNat=leN l / 256^i%256:=by
 have:=zdl l.length (leN l) i h
 rwa [bytesN_leN]at this
def scl_cA(a b i:Nat):Nat:=(a%256^i+b%256^i) / 256^i
theorem cA_zero(a b:Nat):scl_cA a b 0=0:=by simp[scl_cA,Nat.mod_one]
theorem cA_step(a b i:Nat):(scl_cA a b i+a / 256^i%256+b / 256^i%256)%256=(a+b) / 256^i%256∧(scl_cA a b i+a / 256^i%256+b / 256^i%256) / 256=scl_cA a b (i+1):=by
 have d:0<256^i:=Nat.pow_pos (by omega)
 unfold scl_cA
 rw[q132]
 generalize 256^i=P at*
 have j:=Nat.div_add_mod a P
 have h:=Nat.div_add_mod b P
 have g:(a+b) / P=a / P+b / P+(a%P+b%P) / P:=by
  have:a+b=(a%P+b%P)+P*(a / P+b / P):=by rw[Nat.mul_add];omega
  rw[this,Nat.add_mul_div_left _ _ d,Nat.add_comm]
 have e:∀z:Nat,z%(P*256)=z%P+P*(z / P%256):=fun z=>Nat.mod_mul
 have f:(a%(P*256)+b%(P*256)) / (P*256)=((a%P+b%P) / P+(a / P%256+b / P%256)) / 256:=by
  rw[←q172,e,e]
  congr 1
  have:a%P+P*(a / P%256)+(b%P+P*(b / P%256))=(a%P+b%P)+P*(a / P%256+b / P%256):=by rw[Nat.mul_add];omega
  rw[this,Nat.add_mul_div_left _ _ d]
 rw[g,f]
 generalize (a%P+b%P) / P=c
 generalize a / P=x
 generalize b / P=y
 omega
theorem Tryz.info5:(Tryz.prog.info? 5).map (fun i=>(i.zero,i.size,i.bytes))=some (some (.int .u8 0),1,1):=by kernel_rfl
def GlobO(w:World):Prop:=w.rangeAt 6 0 (ints .i64 ORD)
theorem GlobO.ext {w a:World}(h:GlobO w)(b:Ext w a):GlobO a:=glob_ext h b
theorem GlobO.cell {w:World}(h:GlobO w) {j:Nat}(a:j<32):w.cell? ⟨6,j,none⟩=some (.int .i64 (ORD.getD j 0)):=by
 have:=h j (.int .i64 (ORD.getD j 0)) (zas (by show j<32;exact a))
 rwa [q117]at this
theorem Tryz.arr208:(Tryz.prog.info? 208).map (·.size)=some 33:=by kernel_rfl
theorem scl_rsub_any(x:Nat)(w:World)(K:x<256^33)(W:GlobO w):
  Calls Tryz.prog 161 #[.agg (ints .i64 (dig 33 x)).toArray] w fun e w'=>e=.returned (.agg (ints .i64 (dig 33 (if x<zcn then x else x - zcn))).toArray)∧Below w.heap.size w w':=by
 obtain⟨HX,HG,s,a0⟩:=jq4 K W (zcr 33 x) (dig_digits 33 x)
 have U:Hid (∀m c,scl_LS (dig 33 x) m c 33→(c=1∧x<zcn)∨(c=0∧zcn≤x∧m=dig 33 (x - zcn))):=jh (fun m c h=>h.done K)
 have a1:Hid (dig 33 x=dig 33 x):=jh rfl
 obtain⟨r,R⟩:=nxq (dig 33 x)
 have a3:=jh R
 have a5:Hid (∀z,x<zcn→z=dig 33 x→dig 33 (if x<zcn then x else x - zcn)=z):=jh (fun z h e=>by rw[if_pos h,e])
 have a8:Hid (∀z,zcn≤x→z=dig 33 (x - zcn)→dig 33 (if x<zcn then x else x - zcn)=z):=jh (fun z h e=>by rw[if_neg (by omega),e])
 generalize dig 33 (if x<zcn then x else x - zcn)=a9 at*
 rw[←R]at s a0 U⊢
 obtain⟨Y,C⟩:=jq2 (boxes2 w (ints .i64 r) (ints .i64 (List.replicate 33 0)) 208 208) (boxes3 w (ints .i64 r) (ints .i64 (List.replicate 33 0)) (ints .i64 (List.replicate 33 0)) 208 208 208)
 have E:Hid ((Tryz.prog.info? 208).map (·.size)=some (ints .i64 r).length):=jh (by rw[zaa,s.o];exact Tryz.arr208)
 have Z:Hid ((ints .i64 r).length=(ints .i64 (List.replicate 33 0)).length):=jh (by rw[zaa,zaa,s.o];rfl)
 clear K W R a1
 go_enter Tryz.func161,Tryz.ntmps161
 go_wp2_with (first|(refine slb w.heap.size Y.o.1 Tryz.underlying208 E.o ?_)|(refine zal rfl _ _ _ rfl (w.heap.size+1+1) _ rfl rfl _ _ C.o.2.2.1 Z.o E.o (zah _ _) ?_;intro w1 b G))
 have O:=C.o.1.grown G (by simp;omega)
 have H:=C.o.2.1.grown G (by simp)
 have b4:Ext w w1:=zab C.o.2.2.2 G (by omega)
 clear Y C G
 obtain⟨A,hA⟩:=nxq w.heap.size
 rw[←hA]at O H b⊢
 have ac:w.heap.size≤A:=by omega
 obtain⟨l,g,p,f⟩:=jq4 O H b b4
 clear O H b b4 hA
 go_loopw [4,5] (fun c i wr=>∃(k:Nat) (d:Int) (m:List Int),k≤33∧i=.int .i64 (k:Int)∧c=.int .i64 d∧scl_LS r m d k∧Blk wr A (ints .i64 r) 208∧Blk wr (A+1) (ints .i64 (List.replicate 33 0)) 208∧Blk wr (A+1+1) (ints .i64 m) 208∧Ext w wr) (fun _ i _=>33 - (intOf i).toNat)
 case atStart=>exact⟨0,0,r,by omega,rfl,rfl,scl_LS.start s.o,l.o,g.o,p.o,f.o⟩
 case round=>
  clear l g p f
  obtain⟨k,c,m,hk,rfl,rfl,j,b,y,n,q⟩:=hrel
  have ab:(0:Int)≤(k:Int):=Int.natCast_nonneg _
  have P:=j.car
  by_cases Q:k<33
  ·have i1:(k:Int)<33:=by omega
   have V:=s.o
   have B:=j.len
   have e1:=b.cell k
   rw[zas (by omega)]at e1
   have X:=n.cell k
   rw[zas (by omega)]at X
   have f3:=n.free k
   have M:=a0.o k Q
   have aa:=jh M
   generalize m.getD k 0=u at X
   by_cases L:k<32
   ·have i2:(k:Int)<32:=by omega
    have eg:=(HG.o.ext q).cell L
    have q2:=ORD_range k
    have t:=j.step Q s.o M (by rw[ORDX_lo L];exact q2) _ rfl
    rw[ORDX_lo L]at t
    by_cases N:r.getD k 0 - c - ORD.getD k 0<0
    all_goals
     obtain⟨D,F⟩:=jq2 t N
     generalize r.getD k 0=a at*
     generalize ORD.getD k 0=o at*
     obtain⟨l,g,p,f⟩:=jq4 b y n q
     clear t b y n q j V B
     rcases P with rfl|rfl
     all_goals
      go_wp2_with fail
      go_roundw
      case rel=>exact⟨k+1,_,_,by omega,by go_num,rfl,(by first|exact D.o.1 F.o _ (by omega)|exact D.o.2 F.o _ (by omega)),l.o.far (by simp<;>omega) _,g.o.far (by simp<;>omega) _,p.o.seti k _,Below.setCell f.o (by simp;omega) _⟩
      case measure=>simp[intOf];omega
   have a2:k=32:=by omega
   subst a2
   have t:=j.step Q s.o M (by rw[ORDX_top];omega) _ rfl
   rw[ORDX_top]at t
   by_cases N:r.getD 32 0 - c - 0<0
   all_goals
    obtain⟨D,F⟩:=jq2 t N
    generalize r.getD 32 0=a at*
    obtain⟨l,g,p,f⟩:=jq4 b y n q
    clear t b y n q j V B
    rcases P with rfl|rfl
    all_goals (go_wp2_with fail)
    all_goals
     go_roundw
     case rel=>exact⟨32+1,_,_,by omega,by go_num,rfl,(by first|exact D.o.1 F.o _ (by omega)|exact D.o.2 F.o _ (by omega)),l.o.far (by simp<;>omega) _,g.o.far (by simp<;>omega) _,p.o.seti 32 _,Below.setCell f.o (by simp;omega) _⟩
     case measure=>simp[intOf]
  have a6:k=33:=by omega
  subst a6
  have a4:=U.o m c j
  have B:=j.len
  have T:Hid ((Tryz.prog.info? 208).map (·.size)=some (ints .i64 m).length):=jh (by rw[zaa,B];exact Tryz.arr208)
  have a7:Hid ((ints .i64 m).length=(ints .i64 (List.replicate 33 0)).length):=jh (by rw[zaa,zaa,B];rfl)
  obtain⟨l,g,p,f⟩:=jq4 b y n q
  clear b y n q j B P
  rcases a4 with⟨rfl,h1⟩|⟨rfl,h1,h2⟩
  ·have I:=jh (a5.o r h1 a3.o)
   clear h1
   go_wp2_with (first|(refine slb A l.o Tryz.underlying208 E.o ?_)|(refine zal rfl _ _ _ rfl (A+1) _ rfl rfl _ _ g.o Z.o E.o (zah _ _) ?_;intro w7 S J))
   exact bodyPost_ret (v:=.agg (ints .i64 r).toArray) (result_row (by rfl) _ (A+1) _ _ _ (by rfl) S Tryz.underlying208 rfl E.o) rfl ⟨by rw[I.o],zab f.o J (by omega)⟩
  have I:=jh (a8.o m h1 h2)
  clear h1 h2
  go_wp2_with (first|(refine slb (A+1+1) p.o Tryz.underlying208 T.o ?_)|(refine zal rfl _ _ _ rfl (A+1) _ rfl rfl _ _ g.o a7.o T.o (zah _ _) ?_;intro w7 S J))
  exact bodyPost_ret (v:=.agg (ints .i64 m).toArray) (result_row (by rfl) _ (A+1) _ _ _ (by rfl) S Tryz.underlying208 rfl T.o) rfl ⟨by rw[I.o],zab f.o J (by omega)⟩
theorem gOrder:Tryz.prog.globalNamed "portcullis/portcullisref3.order"=some 6:=by kernel_rfl
theorem tOrder:(Tryz.prog.globals[6]?).map (·.type)=some 175:=by kernel_rfl
theorem dOrder:(Rows.laid_portcullis_portcullisref3_order:DataW Unit)=.agg (ORD.map fun z=>.lit (.int .i64 z)):=rfl
theorem globO_of {W:World} {L:List (String×DataW Unit)}(b:(L.all fun x=>x.2.handleName?.isNone)=true)(h:laidMetH Tryz.prog L W)(a:("portcullis/portcullisref3.order",Rows.laid_portcullis_portcullisref3_order)∈L):GlobO W:=
 zcw b h a dOrder gOrder tOrder Tryz.underlying175 q156 (by kernel_rfl) rfl
theorem rot_any(x:Q64)(n:Nat)(f:n≤64)(w:World):Calls Tryz.prog 160 #[.int .u64 (qi x),.int .u64 (n:Int)] w fun e a=>e=.returned (.int .u64 (qi (rotq x n)))∧w=a:=by
 have b:=jh (qi_rotq x n)
 have d:=qi_range x
 generalize qi x=z at*
 have c:(n:Int)≤64:=by omega
 go_enter Tryz.func160,Tryz.ntmps160
 go_wp2_with fail
 go_ret
 exact⟨congrArg (fun v=>Ending.returned (.int .u64 v)) (by rw[←b.o,IntKind.wrap_u64]),rfl⟩
theorem rot_ext(x:Q64)(n:Nat)(b:n≤64)(w:World):Calls Tryz.prog 160 #[.int .u64 (qi x),.int .u64 (n:Int)] w fun e a=>e=.returned (.int .u64 (qi (rotq x n)))∧Below w.heap.size w a:=
 (rot_any x n b w).mono fun _ _ h=>⟨h.1,by obtain⟨_,rfl⟩:=h;exact Below.refl _ _⟩
section
section
variable {P:Program} {a:Act} {w:World} {Q:Exit→Act→World→Prop}
theorem Exit.jump_mono {l:Nat} {J b:Act→World→Prop}(h:∀a w,J a w→b a w):∀{e:Exit} {a:Act} {w:World},Exit.jump l J Q e a w→Exit.jump l b Q e a w
 |.goto _,_,_,hh=>⟨hh.1,h _ _ hh.2⟩
 |.normal,_,_,hh=>hh
 |.exit _,_,_,hh=>hh
 |.ret,_,_,hh=>hh
 |.panic _,_,_,hh=>hh
 |.outgrown,_,_,hh=>hh
theorem wp_scope_back0 {c rest:Code}(l:Nat)(J:Act→World→Prop)(μ:Act→World→Nat)(f:findLabel c l=some (Code.skip.seq rest))
  (first:(∀a w,J a w→rest.wp P (Exit.jump l J Q) a w)→c.wp P (Exit.jump l J Q) a w)
  (d:∀a w,J a w→rest.wp P (Exit.jump l (fun a' b=>J a' b∧μ a' b<μ a w) Q) a w):(Code.scope c).wp P Q a w:=
 wp_scope_jumps l J μ f (first fun a w h=>Code.wp_mono (fun e a w h=>Exit.jump_mono (fun _ _ h=>h.1) h) (d a w h)) fun a w h=>wp_seq (wp_skip (d a w h))
end
end
section
theorem blk_q {w:World} {c:Nat} {l:List Q64} {t:TypeId}(h:Blk w c (ints .u64 (qs l)) t) {j:Nat}(a:j<l.length):w.cell? ⟨c,j,none⟩=some (.int .u64 (qi (l.getD j 0#64))):=by
 rw[h.cell,zas (by rw[zdd];exact a),qs_getD]
section
variable {P:Program} {ops:Array Oper} {C:World→Prop} {D:Act→Prop}
theorem qi_not(x:Q64):bits .xor .u64 18446744073709551615 (qi x)=qi (~~~x):=by
 have e:(18446744073709551615:Int)=qi (BitVec.allOnes 64):=rfl
 rw[e,qi_xor]
 rw[BitVec.allOnes_xor]
theorem det_qinot {o:Oper} {rest:List Oper} {a:Act}(ty:TypeId)(x:Operand)(m:Q64)(d:Region.wanted o (yielded ops a.tmps)=true)(c:o.op=.unOp .xor ty x)(b:a.eval x=.int .u64 (qi m))
  (next:wpDet P ops C D rest (a.put o.dst (.int .u64 (qi (~~~m))))):wpDet P ops C D (o::rest) a:=
 zde _ d (fun w _=>by
  have e:=qi_not m
  have h1:(Op.intBits .xor .u64 18446744073709551615 (qi m))=pure (.int .u64 (bits .xor .u64 18446744073709551615 (qi m))):=rfl
  have h2:Op.unary .xor (.int .u64 (qi m))=Op.intBits .xor .u64 18446744073709551615 (qi m):=rfl
  unfold execOp
  simp only[c,b,h2,h1,e]
  simp) next
end
end
def lenOf:Value→Nat
 |.slice _ n _=>n
 |_=>0
theorem ownRow_len {w:World} {base:Nat} {e:TypeId} {n:Nat} {x:Value} {a:List Value}(h:w.ownsRow base e 1 x n a):lenOf x=n:=by
 obtain⟨_,⟨rfl,rfl⟩|⟨g,b,c,rfl,_⟩⟩:=h
 ·rfl
 rfl
theorem zcp {w:World} {base:Nat} {e:TypeId} {n m:Nat} {x:Value} {b a:List Value}(h:w.ownsRow base e 1 x n b)(d:n=m)(c:b=a):w.ownsRow base e 1 x m a:=by
 subst d;subst c
 exact h
theorem below_own {a b d:World} {base:Nat} {e:TypeId} {n:Nat} {x:Value} {j:List Value}(h:Below base a b)(f:b.ownsRow base e 1 x n j)(k:b.grownBy d x.ownBlock)(i:base≤b.heap.size):Below base a d:=
 Below.grown h k i (fun r c=>by
  obtain⟨_,h1|⟨g,m,l,rfl,h2,_⟩⟩:=f
  ·obtain⟨rfl,_⟩:=h1
   cases c
  cases c
  exact h2)
def padA(b:List UInt8)(k:Nat):List UInt8:=b++[128]++List.replicate k 0
theorem padA_succ(b:List UInt8)(k:Nat):padA b (k+1)=padA b k++[0]:=by
 unfold padA
 rw[List.replicate_succ']
 simp[q109]
theorem padA_length(b:List UInt8)(k:Nat):(padA b k).length=b.length+1+k:=by simp[padA];omega
def padB(b:List UInt8)(k:Nat):List UInt8:=padA b (padN b.length)++(beB 8 (8*b.length)).take k
theorem padB_full(b:List UInt8):padB b 8=padded b:=by
 unfold padB padded padA
 rw[q108 (by rw[zdz];exact q101 _)]
theorem beB_get(n:Nat):∀k j,j<k→(beB k n)[j]? =some (UInt8.ofNat (n / 256^(k - 1 - j)%256))
 |0,j,h=>by omega
 |k+1,0,h=>by simp[beB]
 |k+1,j+1,h=>by
  simp only[beB,List.getElem?_cons_succ]
  rw[beB_get n k j (by omega)]
  congr 5
  omega
theorem padB_succ(b:List UInt8)(k:Nat)(a:k<8):padB b (k+1)=padB b k++[UInt8.ofNat (8*b.length / 256^(7 - k)%256)]:=by
 unfold padB
 have c:k<(beB 8 (8*b.length)).length:=by rw[zdz];exact a
 rw[q143 c,q109]
 congr 2
 have h1:=beB_get (8*b.length) 8 k a
 rw[List.getElem?_eq_getElem c]at h1
 simpa using h1
theorem pad_test(n k:Nat)(a:k≤padN n):((n+1+k)%64=56↔k=padN n):=by
 unfold padN at*
 omega
end Go.Proofs.YtgnfdonbholcdaaGreatDoor


