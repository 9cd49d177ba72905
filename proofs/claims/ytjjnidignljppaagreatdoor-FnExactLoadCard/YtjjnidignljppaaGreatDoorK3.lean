import Derived.Test.YtjjnidignljppaaGreatDoorK1
import Derived.Test.YtjjnidignljppaaGreatDoorGC
namespace Go.Proofs.YtjjnidignljppaaGreatDoor
set_option maxHeartbeats 4000000
set_option linter.all false
set_option maxRecDepth 100000
open Go.ChangeShapes Go.WideShapes Go.ChangeAt Go.RowKit
variable {B a j k:Nat}{b:Bool}{l:LI}{p:OA}{v:Value}{vs:List Value}
def Rd.at{w:World}{n c:Nat}(h:Rd w (.S p n c) l)(hl:0<l.length):∃b o,p=some ⟨b,o,none⟩/\n=l.length/\∀i,i<l.length->w.cell? ⟨b,o+i,none⟩=some (.int .u8 (l.getD i 0)):=by
 obtain⟨p',c',e,h⟩:=h;simp only[dU]at e;obtain⟨rfl,rfl,-⟩:=e;rcases h with rfl|⟨b,o,e2,hc⟩;{simp at hl};{exact⟨b,o,e2,rfl,hc⟩}
def Np(c:Int):(97<=c/\c<=122/\tJ c=true)\/(122<c/\tJ c=false)\/(48<=c/\c<=57/\tJ c=true)\/(c=95/\tJ c=true)\/(57<c/\c<97/\¬c=95/\tJ c=false)\/(c=45/\tJ c=true)\/(c<48/\¬c=45/\tJ c=false):=by
 unfold tJ;by_cases h1:97<=c<;>by_cases h2:c<=122<;>by_cases h3:48<=c<;>by_cases h4:c<=57<;>by_cases h5:c=45<;>by_cases h6:c=95<;>simp[h1,h2,h3,h4,h5,h6]<;>omega
def Fp{c:Int}{w:World}:Calls Tryz.prog 164 #[.int .u8 c] w fun e w'=>e=.returned (.bool (tJ c))/\w'=w:=by
 rcases Np c with⟨h1,h2,hb⟩|⟨h2,hb⟩|⟨h3,h4,hb⟩|⟨rfl,hb⟩|⟨h4,h1,h6,hb⟩|⟨rfl,hb⟩|⟨h3,h5,hb⟩;{rw[hb];go_enter Tryz.func164,Tryz.ntmps164;go_wp2;go_ret;exact⟨rfl,rfl⟩};{rw[hb];have h1:(97:Int)<=c:=ae;have h3:(48:Int)<=c:=ae;have h2':¬c<=122:=ae;have h4:¬c<=57:=ae;have h5:¬c=45:=ae;have h6:¬c=95:=ae;go_enter Tryz.func164,Tryz.ntmps164;go_wp2;go_ret;exact⟨by simp[h5,h6],rfl⟩};{rw[hb];have h1:¬(97:Int)<=c:=ae;go_enter Tryz.func164,Tryz.ntmps164;go_wp2;go_ret;exact⟨rfl,rfl⟩};{rw[hb];go_enter Tryz.func164,Tryz.ntmps164;go_wp2;go_ret;exact⟨rfl,rfl⟩};{rw[hb];have h1:¬(97:Int)<=c:=ae;have h3:(48:Int)<=c:=ae;have h4:¬c<=57:=ae;have h5:¬c=45:=ae;go_enter Tryz.func164,Tryz.ntmps164;go_wp2;go_ret;exact⟨by simp[h5,h6],rfl⟩};{rw[hb];go_enter Tryz.func164,Tryz.ntmps164;go_wp2;go_ret;exact⟨rfl,rfl⟩};{rw[hb];have h1:¬(97:Int)<=c:=ae;have h3':¬(48:Int)<=c:=ae;have h6:¬c=95:=ae;go_enter Tryz.func164,Tryz.ntmps164;go_wp2;go_ret;exact⟨by simp[h5,h6],rfl⟩}
def Tryz.infoSl:(Tryz.prog.info? 22).map (fun i=>(i.zero,i.size,i.bytes))=some (some (.S none 0 0),1,24):=by kernel_rfl
def vr(B:Nat)(w:World)(v:Value)(n:Nat)(vs:List Value):Prop:=w.ownsRow B 22 1 v n vs
def vr.nil(B:Nat)(w:World):vr B w (.S none 0 0) 0 []:=World.ownsRow_nil _ _ _ _
def vr.form{w:World}{n:Nat}(h:vr B w v n vs):∃p c,v=.S p n c:=by
 rcases h.2 with⟨rfl,h0⟩|⟨g,cap,cur,rfl,_⟩;{exact⟨none,0,by rw[h0]⟩};{exact⟨_,_,rfl⟩}
def vr.below{w w':World}{n:Nat}(h:vr B w v n vs)(hb:Bw w w'):vr B w' v n vs:=
 World.ownsRow.kept h (row:=none) ⟨hb.os,hb.tape,hb.output,hb.size,fun k hk _=>hb.block k hk⟩ (by cases hv:v.ownBlock<;>simp)
def tM{w:World}{ops:Array Oper}{rest:List Oper}{o:Oper}{a:Act}{Q:Exit->Act->World->Prop}(mr:o.guard=none){s x:Operand}(ho:o.op=.call {callee:=.builtin .append,args:=#[s,x],argTypes:=#[59,59]}){n:Nat}(g:Nat)(hs:a.eval s=v)(hx:a.eval x=.T g 1 1)(h:vr B w v n vs)(pu:OA)(nu cu:Nat)(hc:w.cell? ⟨g,0,none⟩=some (.S pu nu cu))(hl:n<=2097152)(hB:B<=w.heap.size)(hK:∀p' c' w',vr B w' (.S p' (n+1) c') (n+1) (vs++[.S pu nu cu])->w.grownBy w' v.ownBlock->wpList Tryz.prog ops Q rest (a.put o.dst (.S p' (n+1) c')) w'):wpList Tryz.prog ops Q (o::rest) a w:=by
 obtain⟨i,hi,nO,iL,ju⟩:=info_parts Tryz.infoSl;refine wpList_append_own w mr s x 59 ho B 22 i _ 1 24 Tryz.underlying59 hi nO iL ju rfl aU v _ _ hs h ⟨g,0,none⟩ 1 1 [.S pu nu cu] hx rfl ?_ ?_ ic ae hB ?_;{
 intro j u hu;have e:j=0:=by have:=(aT.1 hu).1;simpa using this
 subst e;simp at hu;subst hu;exact hc};{
 intro u hu;simp at hu;subst hu
 rfl}
 {intro v' w' h1 h2 _;have h3:vr B w' v' (n+1) (vs++[.S pu nu cu]):=h1;obtain⟨p',c',rfl⟩:=h3.form;exact hK p' c' w' h3 h2}
open Go.Proofs.Tryz
def drop_cons(h:a<l.length):l.drop a=l.getD a 0::l.drop (a+1):=by
 rw[Rm h];simp[List.getD,h]
def an5(h0:st k (l.drop a)=b)(ha:a<l.length)(py:l.getD a 0=47)(wX:∀x∈(l.drop (a+1)).take j,tJ x=true)(hj:a+1+j<=l.length)(au7:a+1+j=l.length\/l.getD (a+1+j) 0=47):b=(kn ((l.drop (a+1)).take j)&&st (k+1) (l.drop (a+1+j))):=by
 rw[<-h0,drop_cons ha,py];have e:l.drop (a+1)=(l.drop (a+1)).take j++l.drop (a+1+j):=by have e:=(BH j (l.drop (a+1))).symm;rw[ND]at e;exact e
 by_cases hl:a+1+j=l.length;{
 have e0:l.drop (a+1+j)=[]:=Oc ae;rw[e0,CE]at e;rw[e0]
 conv=>lhs;rw[e]
 exact aL8 wX};{
 rcases au7 with h|h;{exact absurd h hl};{
 have e1:=drop_cons (l:=l) (a:=a+1+j) ae;rw[h]at e1;rw[e1]at e⊢
 conv=>lhs;rw[e]
 exact an6 wX}}
def XN(h0:st k (l.drop a)=b)(ha:a<l.length)(py:l.getD a 0=47)(wX:∀x∈(l.drop (a+1)).take j,tJ x=true)(hj:a+1+j<l.length)(hn:¬l.getD (a+1+j) 0=47)(hb:tJ (l.getD (a+1+j) 0)=false):b=false:=by
 rw[<-h0,drop_cons ha,py];have e:l.drop (a+1)=(l.drop (a+1)).take j++l.drop (a+1+j):=by have e:=(BH j (l.drop (a+1))).symm;rw[ND]at e;exact e
 rw[drop_cons hj]at e;rw[e];exact aL9 wX hn hb
def Tl(l:LI)(a B:Nat)(w:World)(vs:List Value):Prop:=(vs=[]/\a=0)\/∃s j v,vs.getLast?=some v/\a=s+1+j/\l.getD s 0=47/\(∀y∈(l.drop (s+1)).take j,tJ y=true)/\Own B w v ((l.drop (s+1)).take j)
def bC9(l:LI)(B:Nat)(w:World)(vs:List Value):Prop:=∃s v,vs.getLast?=some v/\s<l.length/\l.getD s 0=47/\(∀y∈l.drop (s+1),tJ y=true)/\Own B w v (l.drop (s+1))
def Tl.fin{n k B:Nat}{w:World}(h:Tl l n B w vs)(en:l.length=n)(ho:vr B w v k vs)(hk:1<=k):bC9 l B w vs:=by
 rcases h with⟨rfl,-⟩|⟨s,j,v,h1,h2,h3,h4,h5⟩;{have:=ho.1;simp at this;omega};{have e:(l.drop (s+1)).take j=l.drop (s+1):=kq bj;rw[e]at h4 h5;exact⟨s,v,h1,ae,h3,h4,h5⟩}
def Tl.app{nm:LI}{t C:Nat}{w w1 w3:World}{r v:Value}(ht:t=a+1+j)(py:l.getD a 0=47)(enm:nm=(l.drop (a+1)).take j)(wX:∀y∈nm,tJ y=true)(ho:Own C w v nm)(hb:Bw w w1)(hg:w1.grownBy w3 r.ownBlock)(hr:∀b,r.ownBlock=some b->b<C)(hC:B<=C):Tl l t B w3 (vs++[v]):=by
 subst enm;refine .inr ⟨a,j,v,ai,ht,py,wX,Own.mono ((Own.below ho hb).sA (Kept.En (vs:=[r]) hg ai) (fun u hu b hb e=>?_)) hC⟩;simp at hu;subst hu;have:=hr b e;have:=(ho.lt b hb).1;omega
def NmE(l:LI)(C:Nat)(B:Bool)(e:Ending)(w':World):Prop:=B=true->∃p k c vs,e=.returned (.tuple #[.S p k c,.bool true])/\vr C w' (.S p k c) k vs/\1<=k/\bC9 l C w' vs
def yD{c n:Nat}(en:Hid (l.length=n)){w:World}(h:Rd w (.S p n c) l)(hb:aM l)(hl:n<=1048576){B:Bool}(eB:Hid (vp l=B)):Cp 130 #[.S p n c] w fun e w'=>NmE l w.heap.size B e w'/\(∃v,e=.returned (.tuple #[v,.bool B]))/\Bw w w':=by
 have HR:=af h;have HB:=af hb;clear h hb;go_enter func130,ntmps130;go_wp2
 go_loopw[4,5](fun ov i wr=>∃(a k:Nat)(pv:OA)(cv:Nat)(vs:List Value),a<=n/\i=.I a/\ov=.S pv k cv/\k<=a/\Hid (st k (l.drop a)=B)/\vr w.heap.size wr (.S pv k cv) k vs/\Hid (Tl l a w.heap.size wr vs)/\Bw w wr) (fun _ i _=>n-(intOf i).toNat)
 exact⟨0,0,none,0,[],gq _,rfl,rfl,jS _,(by show _=_;exact eB),vr.nil _ _,af (.inl ⟨rfl,rfl⟩),cW _ _⟩;{
 obtain⟨a,k,pv,cv,vs,ha,rfl,rfl,hka,cR,ho,hLN,aG⟩:=hrel;have Ry:=aG.size;by_cases aX:a<n;{
 have bu:=aP a n;obtain⟨b,o,rfl,-,hc⟩:=HR.at (by rw[aa en];omega);have cO:∀(i:Nat)(w':World),i<n->Bw w w'->w'.cell? ⟨b,o+i,none⟩=some (.int .u8 (l.getD i 0)):=fun i w' hi bL=>(bL.cell (p:=⟨b,o+i,none⟩) (pI w _ (hc i (by rw[aa en];exact hi)))).trans (hc i (by rw[aa en];exact hi));have HC:=af cO;have hca:=cO a wr aX aG;clear hc cO;obtain⟨x,ex⟩:=aI (l.getD a 0);rw[ex]at hca;have EX:=af ex;clear ex;by_cases py:x=47;{
 subst py;go_wp2_with fail
 go_loopw[5,6](fun i nv w2=>∃(t j:Nat)(pn:OA)(cn:Nat)(nm:LI),Hid (t=a+1+j)/\t<=n/\a<t/\j<t/\i=.I t/\nv=.S pn j cn/\Hid (nm=(l.drop (a+1)).take j)/\Hid (nm.length=j)/\Hid (∀y∈nm,tJ y=true)/\Own wr.heap.size w2 (.S pn j cn) nm/\Bw wr w2) (fun i _ _=>n-(intOf i).toNat)
 exact⟨a+1,0,none,0,[],rfl,ae,ae,ae,by go_num,rfl,rfl,rfl,(by intro y hy;simp at hy),World.ownsRow_nil _ _ _ _,cW _ _⟩;{
 obtain⟨t,j,pn,cn,nm,ht,htn,fD,hjt,rfl,rfl,enm,elj,wX,hon,aF⟩:=hrel;have ju:=aF.size;have bb2:=aj aG aF;have mP:=ho.below aF;have au7:(t=n\/l.getD t 0=47)->B=(kn nm&&st (k+1) (l.drop t)):=fun he=>by have:=an5 (j:=j) (aa cR) (by rw[aa en];exact aX) (aa EX) (by rw[<-aa enm];exact aa wX) (by rw[aa en,<-aa ht];exact htn) (by rw[aa en,<-aa ht];exact he);rw[<-aa enm,<-aa ht]at this;exact this
 have iC:(1<=j/\j<=16->kn nm=true)/\(¬(1<=j/\j<=16)->kn nm=false):=by have ha:nm.all tJ=true:=iT.2 wX;rw[kn,aa elj,ha];constructor;{rintro⟨h1,h2⟩;simp[h1,h2]};{intro h;simp;omega}
 have HE:=af au7;have HK:=af iC;clear au7 iC;by_cases jr:t<n;{
 have ce9:=aP t n;have hct:=aa HC t wr jr bb2;obtain⟨z,ez⟩:=aI (l.getD t 0);rw[ez]at hct;have EZ:=af ez;clear ez;by_cases at3:z=47;{
 subst at3;have he:=aa HE (.inr EZ);by_cases hj1:1<=j;{
 have aR3:¬(j:Int)<1:=ae;by_cases aR2:j<=16;{have Z8:¬(16:Int)<(j:Int):=ae;rw[HK.1 ⟨hj1,aR2⟩,ox]at he;have HE2:=af he.symm;clear he hca;go_wp2_with(at_builtin;refine tM rfl rfl (v:=.S pv k cv) wr.heap.size rfl rfl (mP.below (ay.alloc ao _)) pn j cn ai ae bj ?_);intro p' c' w3 ho3 tz;have b3:Bw w w3:=(bb2.alloc bb2.size _).grown tz bj (fun k hk=>(World.ownsRow.lt mP k hk).1);have HL3:=af (Tl.app (B:=w.heap.size) (vs:=vs) ht EX enm wX hon (ay.alloc ao _) tz (fun b hb=>(World.ownsRow.lt ho b hb).2) aG.size);clear tz;go_wp2;go_roundw;exact⟨t,k+1,p',c',_,htn,by go_num,rfl,ae,HE2,ho3,HL3,b3⟩;exact bG};{
 have Z8:=pW 16 j;rw[HK.2 ae,Uj]at he;subst he;go_wp2
 go_ret2
 exact⟨(fun h=>by cases h),⟨_,rfl⟩,bb2⟩}};{
 have aR3:(j:Int)<1:=ae;rw[HK.2 ae,Uj]at he;subst he;go_wp2
 go_ret2
 exact⟨(fun h=>by cases h),⟨_,rfl⟩,bb2⟩}};{
 have Mi:(z==47)=false:=by simp[at3]
 have dm7:(z != 47)=true:=by simp[at3]
 go_wp2_with fail;refine(Fp).mono ?_;rintro e w3⟨rfl,rfl⟩;by_cases hzb:tJ z=true;{
 rw[hzb];have bx6:Hid (nm++[z]=(l.drop (a+1)).take (j+1)):=by
  show _=_;have e1:(l.drop (a+1))[j]?=some z:=by rw[Kt,<-aa ht,<-aa EZ];simp[List.getD,aa en,jr]
  rw[ng,e1,aa enm]
  rfl
 have aV7:Hid ((nm++[z]).length=j+1):=by show _=_;rw[ig,aa elj];rfl
 have bo3:Hid (∀y∈nm++[z],tJ y=true):=by intro y hy;rcases gR.1 hy with h|h;{exact wX y h};{simp at h;rw[h];exact hzb}
 have ht2:Hid (t+1=a+1+(j+1)):=by show _=_;have:=aa ht;omega
 obtain⟨nm2,aV3⟩:=au (nm++[z]);rw[<-aV3]at bx6 aV7 bo3;have GR:=af aV3;clear aV3 mP;go_wp2_with(at_builtin;refine eh rfl rfl (.S pn j cn) GR w3.heap.size rfl rfl (Own.below hon (ay.alloc ao _)) ai (by rw[aa elj];omega) bj ?_);intro p' c' w4 ho4 sS;have b4:=(aF.alloc aF.size _).grown sS bj (fun k hk=>(hon.lt k hk).1);rw[aa aV7]at ho4⊢;clear sS;go_wp2;go_roundw;exact⟨t+1,j+1,p',c',nm2,ht2,ae,ae,ae,by go_num,rfl,bx6,aV7,bo3,ho4,b4⟩;exact bG};{
 have hzf:tJ z=false:=by simpa using hzb
 rw[hzf];have eF:B=false:=by have e:=aa ht;exact XN (j:=j) (aa cR) (by rw[aa en];exact aX) (aa EX) (by rw[<-aa enm];exact aa wX) (by rw[aa en,<-e];exact jr) (by rw[<-e,aa EZ];exact at3) (by rw[<-e,aa EZ];exact hzf)
 subst eF;go_wp2
 go_ret2
 exact⟨(fun h=>by cases h),⟨_,rfl⟩,bb2⟩}}};{
 have ce9:=du t n;have he:=aa HE (.inl ae);by_cases hj1:1<=j;{
 have aR3:¬(j:Int)<1:=ae;by_cases aR2:j<=16;{have Z8:¬(16:Int)<(j:Int):=ae;rw[HK.1 ⟨hj1,aR2⟩,ox]at he;have HE2:=af he.symm;clear he hca;go_wp2_with(at_builtin;refine tM rfl rfl (v:=.S pv k cv) wr.heap.size rfl rfl (mP.below (ay.alloc ao _)) pn j cn ai ae bj ?_);intro p' c' w3 ho3 tz;have b3:Bw w w3:=(bb2.alloc bb2.size _).grown tz bj (fun k hk=>(World.ownsRow.lt mP k hk).1);have HL3:=af (Tl.app (B:=w.heap.size) (vs:=vs) ht EX enm wX hon (ay.alloc ao _) tz (fun b hb=>(World.ownsRow.lt ho b hb).2) aG.size);clear tz;go_wp2;go_roundw;exact⟨t,k+1,p',c',_,htn,by go_num,rfl,ae,HE2,ho3,HL3,b3⟩;exact bG};{
 have Z8:=pW 16 j;rw[HK.2 ae,Uj]at he;subst he;go_wp2
 go_ret2
 exact⟨(fun h=>by cases h),⟨_,rfl⟩,bb2⟩}};{
 have aR3:(j:Int)<1:=ae;rw[HK.2 ae,Uj]at he;subst he;go_wp2
 go_ret2
 exact⟨(fun h=>by cases h),⟨_,rfl⟩,bb2⟩}}}};{
 have hx:(x==47)=false:=by simp[py]
 have VR:(x != 47)=true:=by simp[py]
 have eF:B=false:=by rw[<-aa cR,drop_cons (by rw[aa en];exact aX),aa EX];exact MO py
 subst eF;go_wp2
 go_ret2
 exact⟨(fun h=>by cases h),⟨_,rfl⟩,aG⟩}};{
 have e:a=n:=ae;have bu:=du a n;have Qp:=aa cR;rw[Oc (by rw[aa en];omega),st]at Qp;by_cases h1:1<=k;{
 by_cases h8:k<=8;{
 have h1':=dw 1 k;have h8':(k:Int)<=8:=ae;have eT:B=true:=by rw[<-Qp];simp[h1,h8]
 subst eT;subst e;go_wp2
 go_ret2
 exact⟨fun _=>⟨pv,k,cv,vs,rfl,ho,h1,hLN.fin en ho h1⟩,⟨_,rfl⟩,aG⟩};{
 have h1':=dw 1 k;have h8':¬(k:Int)<=8:=ae;have eT:B=false:=by rw[<-Qp];simp[h8]
 subst eT;go_wp2
 go_ret2
 exact⟨(fun h=>by cases h),⟨_,rfl⟩,aG⟩}};{
 have h1':¬(1:Int)<=(k:Int):=ae;have eT:B=false:=by rw[<-Qp];simp[h1]
 subst eT;go_wp2
 go_ret2
 exact⟨(fun h=>by cases h),⟨_,rfl⟩,aG⟩}}}
def Oj{c n:Nat}(en:Hid (l.length=n)){w:World}(h:Rd w (.S p n c) l)(hb:aM l)(hl:n<=1048576){B:Bool}(eB:Hid (vp l=B)):Cp 130 #[.S p n c] w fun e w'=>(∃v,e=.returned (.tuple #[v,.bool B]))/\Bw w w':=(yD en h hb hl eB).mono fun _ _ h=>h.2
end Go.Proofs.YtjjnidignljppaaGreatDoor
