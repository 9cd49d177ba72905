import Derived.Test.YtjjnidignljppaaGreatDoorK0
import Derived.Lib.AppendZeros
import Derived.Deep.RegionLaw
namespace Go.Proofs.YtjjnidignljppaaGreatDoor
set_option maxHeartbeats 800000
set_option linter.all false
set_option maxRecDepth 100000
open Go.ChangeShapes Go.WideShapes Go.ChangeAt Go.RowKit Go.Deep Go.Proofs.Tryz
variable {B c g:Nat}{a:Act}{l lm m:LI}{ls:List LI}{o:Oper}{ops:Array Oper}{p:OA}{s x:Operand}{v:Value}{vs:List Value}
def Own.form{w:World}(h:Own B w v l):∃p c,v=.S p l.length c:=by
 rcases h.2 with⟨rfl,h0⟩|⟨g,cap,cur,rfl,_⟩;{exact⟨none,0,by rw[h0]⟩};{exact⟨_,_,rfl⟩}
def Rd.news{w:World}{a:Addr}(h:Rd w (.S (some a) l.length c) l):(U l).length=l.length*1/\(∀j u,(U l)[j]?=some u->w.cell? (a.add j)=some u)/\(∀u∈U l,u.oneCell'=true):=by
 refine⟨ai,?_,?_⟩;{
 intro j u hj;obtain⟨p,cap,e,h⟩:=h;simp only[dU]at e;obtain⟨rfl,-,rfl⟩:=e;rcases h with rfl|⟨b,o,e,hc⟩;{simp at hj};{
 simp only[jU]at e;subst e;have zw:j<l.length:=by have:=(aT.1 hj).1;simpa using this
 have:=hc j zw;rw[Addr.add_lit,this];simp[List.getD,aO zw]at hj⊢;exact hj}};{
 intro u hu;obtain⟨x,_,rfl⟩:=iJ.1 hu
 rfl}
def Rd.rI{w:World}(h:Rd w (.S none l.length c) l):l=[]:=by
 obtain⟨p,cap,e,h⟩:=h;simp only[dU]at e;obtain⟨rfl,-,rfl⟩:=e;rcases h with rfl|⟨b,o,e,hc⟩;{rfl}
 {cases e}
def fN{P:Program}{w:World}{base:Nat}{t:TypeId}(ty:TypeId){e:TypeId}(i:TypeInfo){size:Nat}(ht:P.underlying t=some (.slice e))(hi:P.info? e=some i){n:Nat}{xs:List Value}(c:Nat)(bO:w.ownsRow base e size v n xs):(Builtin.append_ #[t,t] ty #[v,.S none 0 c]).run P w=.ok v w:=by
 rcases bO.2 with⟨rfl,rfl⟩|⟨g,cap,cur,rfl,_,_,vG,_⟩;{simp[Builtin.append_,run_underlying ht,sizeOf,typeInfo,hi,Builtin.lenOf,Builtin.firstCells]};{simp[Builtin.append_,run_underlying ht,sizeOf,typeInfo,hi,Builtin.lenOf,Builtin.firstCells,vG,storeCells]}
theorem Fs{w:World}(h:Rd w (.S p l.length c) l)(hl:l.length<=2097152):Cp 40 #[.S p l.length c] w fun e w'=>∃p' c',e=.returned (.S p' l.length c')/\Own w.heap.size w' (.S p' l.length c') l/\Bw w w':=by
 obtain⟨i,hi,nO,iL,ju⟩:=info_parts Tryz.infoByte;cases p with
 |none=>
  have e:=h.rI;subst e;have Xo:=fun w:World=>fN (P:=prog) 22 i underlying22 hi c (World.ownsRow_nil w 0 5 1);go_enter func40,ntmps40;go_wp2;go_ret;exact⟨none,0,rfl,World.ownsRow_nil _ _ _ _,cW _ _⟩
 |some a=>
  obtain⟨n1,n2,n3⟩:=h.news;go_enter func40,ntmps40;go_wp2_with(at_builtin;refine wpList_append_own _ rfl _ _ 22 rfl w.heap.size 5 i (.int .u8 0) 1 1 underlying22 hi nO iL ju rfl aU _ _ _ rfl (World.ownsRow_nil _ _ _ _) a _ c (U l) rfl n1 n2 n3 ic ae ao ?_);intro v' w1 bO hg _;have ho:Own w.heap.size w1 v' l:=by simpa using bO
  obtain⟨p',c',rfl⟩:=ho.form;have hb:=qm hg;go_wp2;go_ret;exact⟨p',c',rfl,ho,hb⟩
theorem ri{w:World}{rest:List Oper}{Q:Exit->Act->World->Prop}(mr:o.guard=none) (ho:o.op=.call {callee:=.builtin .append,args:=#[s,x],argTypes:=#[22,22]})(GR:Hid (lm=l++m))(hs:a.eval s=v)(hx:a.eval x=.S p m.length c)(bO:Own B w v l)(hr:Rd w (.S p m.length c) m)(hl:l.length+m.length<=4194304)(hB:B<=w.heap.size)(hK:∀p' c' w',Own B w' (.S p' lm.length c') lm->w.grownBy w' v.ownBlock->wpList prog ops Q rest (a.put o.dst (.S p' lm.length c')) w'):wpList prog ops Q (o::rest) a w:=by
 obtain⟨i,hi,nO,iL,ju⟩:=info_parts Tryz.infoByte;have e:=aa GR;subst e;cases p with
 |none=>
  have e:=hr.rI;subst e;obtain⟨pv,cv,rfl⟩:=bO.form;have Xo:=fN (P:=prog) o.type i underlying22 hi c bO;refine Lib.wpList_append_run w mr s x 22 22 ho _ _ hs hx _ _ Xo ?_;have:=hK pv cv w (by simpa using bO) ⟨rfl,rfl,rfl,jS _,fun _ _ _=>rfl⟩;simpa using this
 |some ad=>
  obtain⟨n1,n2,n3⟩:=hr.news;refine wpList_append_own w mr s x 22 ho B 5 i (.int .u8 0) 1 1 underlying22 hi nO iL ju rfl aU v _ _ hs bO ad _ c (U m) hx n1 n2 n3 ic ae hB ?_;intro v' w' h1 h2 _;have mP:Own B w' v' (l++m):=by unfold Own;rw[ig,U,ko];exact h1
  obtain⟨p',c',rfl⟩:=mP.form;exact hK p' c' w' mP h2
def Ce{n:Nat}{w:World}(hn:n<=4194304):Cp 151 #[.S none 0 0,.I n] w fun e w'=>∃p' c',e=.returned (.S p' 0 c')/\Own w.heap.size w' (.S p' 0 c') []/\Bw w w':=by
 obtain⟨i,hi,nO,iL,ju⟩:=info_parts Tryz.infoByte;by_cases h:n=0;{subst h;go_enter func151,ntmps151;go_wp2;go_ret;exact⟨none,0,rfl,World.ownsRow_nil _ _ _ _,cW _ _⟩};{
 have hp:=pW 0 n;have hr:=Lib.run_append_nil_zeros (P:=prog) w 22 3 22 5 i (.int .u8 0) .i64 .i64 underlying22 underlying3 hi nO n ae ae ae (by rw[ju];omega);have HR:=af hr;have sG:=grownCap_ge w n 0 5;have Dy:=grownCap_le_maxLen w n 0 5 ic;generalize grownCap w n 0 5=cc at HR sG Dy;go_enter func151,ntmps151;go_wp2_with(at_builtin;refine Lib.wpList_append_run _ rfl _ _ _ _ rfl _ _ rfl rfl _ _ (by exact HR) ?_);unfold maxLen at Dy;go_wp2;go_ret;have hs:(Builtin.zeroCells #[Value.int IntKind.u8 0] n++Builtin.zeroCells #[Value.int IntKind.u8 0] (cc-n)).size=cc*1:=by rw[Array.size_append,size_zeroCells,size_zeroCells];simp;omega
 exact⟨_,cc,rfl,World.ownsRow_made (base:=w.heap.size) (e:=5) (size:=1) w _ cc ao ic hs,(ay.alloc ao _).drew⟩}
def mU(w:World)(g:Nat)(vs:List Value)(ls:List LI):Prop:=
 vs.length=ls.length/\∀j v l,vs[j]?=some v->ls[j]?=some l->w.cell? ⟨g,j,none⟩=some v/\Rd w v l
def mU.below{w w':World}(h:mU w g vs ls)(hb:Bw w w'):mU w' g vs ls:=
 ⟨h.1,fun j v l e1 e2=>⟨ag (h.2 j v l e1 e2).1 hb,(h.2 j v l e1 e2).2.below hb⟩⟩
def mU.get{w:World}(h:mU w g vs ls)(j:Nat)(hj:j<ls.length):∃(p:OA)(c:Nat)(l:LI),ls[j]?=some l/\w.cell? ⟨g,j,none⟩=some (.S p l.length c)/\Rd w (.S p l.length c) l:=by
 have hv:j<vs.length:=by rw[h.1];exact hj
 obtain⟨h1,h2⟩:=h.2 j vs[j] ls[j] (aO hv) (aO hj);obtain⟨p,c,e,hh⟩:=id h2;exact⟨p,c,ls[j],aO hj,by rw[h1,e],by rw[e]at h2;exact h2⟩
def cat(ls:List LI):LI:=ls.flatten
def u7:cat []=[]:=rfl
def UW(l:LI):cat [l]=l:=by simp[cat]
def ay7(l m:LI):cat [l,m]=l++m:=by simp[cat]
def uZ{k:Nat}(h:ls[k]?=some l):cat (ls.take (k+1))=cat (ls.take k)++l:=by
 obtain⟨hk,e⟩:=aT.1 h;unfold cat;rw[Oa hk,Jf,e];simp only[ti,Ze,CE]
def qt(ls:List LI)(k:Nat):(cat (ls.take k)).length<=(cat ls).length:=by
 have e:cat ls=cat (ls.take k)++cat (ls.drop k):=by unfold cat;rw[<-Jf,BH]
 rw[e,ig];omega
theorem SO{w:World}(h:mU w g vs ls)(hl:(cat ls).length<=4194304)(hk:ls.length<=1000):Cp 109 #[.T g ls.length ls.length] w fun e w'=>∃p' c',e=.returned (.S p' (cat ls).length c')/\Own w.heap.size w' (.S p' (cat ls).length c') (cat ls)/\Bw w w':=by
 obtain⟨i,hi,nO,iL,ju⟩:=info_parts Tryz.infoByte;go_enter func109,ntmps109;go_wp2
 go_loopw[3,11](fun s i wr=>∃k:Nat,k<=ls.length/\i=.I k/\s=.I ((cat (ls.take k)).length:Nat)/\Bw w wr) (fun _ i _=>ls.length-(intOf i).toNat)
 exact⟨0,gq _,rfl,by simp[cat],cW _ _⟩;{
 obtain⟨k,jQ,rfl,rfl,aG⟩:=hrel;have nE:=qt ls k;by_cases aX:k<ls.length;{
 obtain⟨p,c,l,e1,e2,e3⟩:=(h.below aG).get k aX;have cR:=uZ e1;have hln:(cat (ls.take k)).length+l.length=(cat (ls.take (k+1))).length:=by rw[cR];simp
 have aa4:=qt ls (k+1);have hle:(cat (ls.take k)).length+l.length<=4194304:=ae;have HL:=af hln;generalize(cat (ls.take k)).length=a at*;go_wp2;go_roundw;exact⟨k+1,ae,by go_num,by rw[<-aa HL];go_num,aG⟩;exact bG};{
 have e:k=ls.length:=ae;subst e;rw[mF];rw[mF]at nE;go_wp2_with fail;refine(Ce hl).mono ?_;rintro e w1⟨p1,c1,rfl,o1,aA⟩;replace o1:Own w.heap.size w1 (.S p1 0 c1) []:=o1.mono aG.size;have b1:=aj aG aA;go_wp2
 go_loopw[6,27](fun v i wr=>∃k:Nat,k<=ls.length/\i=.I k/\(∃p c,v=.S p (cat (ls.take k)).length c/\Own w.heap.size wr v (cat (ls.take k)))/\Bw w wr) (fun _ i _=>ls.length-(intOf i).toNat)
 exact⟨0,gq _,rfl,⟨p1,c1,by simp[cat],by simpa[cat]using o1⟩,b1⟩;{
 obtain⟨k,jQ,rfl,⟨pv,cv,rfl,ho⟩,aG⟩:=hrel;have nE:=qt ls k;by_cases aX:k<ls.length;{
 obtain⟨p,c,l,e1,e2,e3⟩:=(h.below aG).get k aX;have cR:=uZ e1;have aa4:=qt ls (k+1);have hle:(cat (ls.take k)).length+l.length<=4194304:=by have:=wF List.length cR;simp only[ig]at this;omega
 have HS:=af cR;generalize(cat (ls.take k))=a at*;cases p with
 |none=>
  have e:=e3.rI;subst e;have HA:=af (fN (P:=prog) 22 i underlying22 hi c ho);go_wp2_with(at_builtin;refine Lib.wpList_append_run _ rfl _ _ _ _ rfl _ _ rfl rfl _ _ (by exact HA) ?_);go_roundw;exact⟨k+1,ae,by go_num,⟨pv,cv,by rw[aa HS];simp,by rw[aa HS];simpa using ho⟩,aG⟩;exact bG
 |some ad=>
  obtain⟨n1,n2,n3⟩:=e3.news;go_wp2_with(at_builtin;refine wpList_append_own _ rfl _ _ 22 rfl w.heap.size 5 i (.int .u8 0) 1 1 underlying22 hi nO iL ju rfl aU _ _ _ rfl ho ad _ c (U l) rfl n1 n2 n3 ic ae aG.size ?_);intro v' w2 bO hg _;have b2:Bw w w2:=aG.grown hg aG.size (fun k hk=>(ho.lt k hk).1);have mP:Own w.heap.size w2 v' (a++l):=by unfold Own;rw[ig,U,ko];exact bO
  obtain⟨p',c',rfl⟩:=mP.form;go_wp2;go_roundw;exact⟨k+1,ae,by go_num,⟨p',c',by rw[aa HS],by rw[aa HS];exact mP⟩,b2⟩;exact bG};{have e:k=ls.length:=ae;subst e;rw[mF]at ho;go_wp2;go_ret;exact⟨pv,cv,by rw[mF];rfl,ho,aG⟩}}}}
def bS{w:World}{rest:List Oper}{Q:Exit->Act->World->Prop}(mr:o.guard=none) (ho:o.op=.call {callee:=.builtin .append,args:=#[s,x],argTypes:=#[22,22]})(v:Value)(GR:Hid (lm=l++m))(p:OA)(c k:Nat)(hk:Hid (m.length=k))(hs:a.eval s=v)(hx:a.eval x=.S p k c)(bO:Own B w v l)(hr:Rd w (.S p k c) m)(hl:l.length+m.length<=4194304)(hB:B<=w.heap.size)(hK:∀p' c' w',Own B w' (.S p' lm.length c') lm->w.grownBy w' v.ownBlock->wpList prog ops Q rest (a.put o.dst (.S p' lm.length c')) w'):wpList prog ops Q (o::rest) a w:=by
 have e:=aa hk;subst e;exact ri mr ho GR hs hx bO hr hl hB hK
def Own.one(w:World)(y:Int):Own w.heap.size (w.alloc (.cells #[.int .u8 y] 5)) (.T w.heap.size 1 1) [y]:=
 World.ownsRow_lit w #[.int .u8 y] 1 ao ic rfl
def dt{a w w':World}{C:Nat}(h:Below B a w)(hg:w.grownBy w' v.ownBlock)(ho:Own C w v l)(hC:B<=C)(hB:B<=w.heap.size):Below B a w':=
 h.grown hg hB (fun k e=>by have:=(ho.lt k e).1;omega)
def eh{w:World}{rest:List Oper}{Q:Exit->Act->World->Prop}(mr:o.guard=none) (ho:o.op=.call {callee:=.builtin .append,args:=#[s,x],argTypes:=#[22,22]})(v:Value){y:Int}(GR:Hid (lm=l++[y]))(g:Nat)(hs:a.eval s=v)(hx:a.eval x=.T g 1 1)(bO:Own B w v l)(hc:w.cell? ⟨g,0,none⟩=some (.int .u8 y))(hl:l.length<4194304)(hB:B<=w.heap.size)(h:∀p' c' w',Own B w' (.S p' lm.length c') lm->w.grownBy w' v.ownBlock->wpList prog ops Q rest (a.put o.dst (.S p' lm.length c')) w'):wpList prog ops Q (o::rest) a w:=by
 have hr:Rd w (.T g 1 1) [y]:=by
  refine⟨_,_,rfl,.inr ⟨g,0,rfl,fun i hi=>?_⟩⟩;have e:i=0:=by simpa using hi
  subst e;simpa using hc
 exact ri mr ho GR hs hx bO hr bj hB h
end Go.Proofs.YtjjnidignljppaaGreatDoor
