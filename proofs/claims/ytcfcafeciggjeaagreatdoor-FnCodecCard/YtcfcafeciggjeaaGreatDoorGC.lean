import Derived.Test.YtcfcafeciggjeaaGreatDoorK0
import Derived.Lib.AppendZeros
import Derived.Deep.RegionLaw
namespace Go.Proofs.YtcfcafeciggjeaaGreatDoor
set_option maxHeartbeats 800000
set_option linter.all false
set_option maxRecDepth 100000
open Go.ChangeShapes Go.WideShapes Go.ChangeAt Go.RowKit Go.Deep Go.Proofs.Tryz
variable {B c g:Nat} {P:Program} {a:Act} {l:List Int} {ls:List (List Int)} {o:Oper} {ops:Array Oper} {rest:List Oper} {v:Value} {vs:List Value}
theorem Own.form {w:World} (h:Own B w v l):∃ p c,v=.S p l.length c:=by
 rcases h.2 with ⟨rfl,h0⟩ | ⟨g,cap,cur,rfl,_⟩;{exact ⟨none,0,by rw [h0]⟩};{exact ⟨_,_,rfl⟩}
theorem Rd.news {w:World} {a:Addr} (h:Rd w (.S (some a) l.length c) l):(U l).length=l.length*1/\(∀ j u,(U l)[j]?=some u->w.cell? (a.add j)=some u)/\(∀ u∈U l,u.oneCell'=true):=by
 refine ⟨aU,?_,?_⟩;{
 intro j u hj;obtain ⟨p,cap,e,h⟩:=h;simp only [Value.slice.injEq] at e;obtain ⟨rfl,-,rfl⟩:=e;rcases h with rfl | ⟨b,o,e,hc⟩;{simp at hj};{
 simp only [Option.some.injEq] at e;subst e;have Bf:j<l.length:=by have:=(aN.1 hj).1;simpa using this
 have:=hc j Bf;rw [Addr.add_lit,this];simp [List.getD,aK Bf] at hj ⊢;exact hj}};{
 intro u hu;obtain ⟨x,_,rfl⟩:=List.mem_map.1 hu
 rfl}
theorem Rd.oz {w:World} (h:Rd w (.S none l.length c) l):l=[]:=by
 obtain ⟨p,cap,e,h⟩:=h;simp only [Value.slice.injEq] at e;obtain ⟨rfl,-,rfl⟩:=e;rcases h with rfl | ⟨b,o,e,hc⟩;{rfl}
 {cases e}
theorem dX (w:World) (base:Nat) (t ty e:TypeId) (i:TypeInfo) (size:Nat) (ht:P.underlying t=some (.slice e)) (hi:P.info? e=some i)
  (v:Value) (n:Nat) (xs:List Value) (c:Nat) (br:w.ownsRow base e size v n xs) :
  (Builtin.append_ #[t,t] ty #[v,.S none 0 c]).run P w=.ok v w:=by
 rcases br.2 with ⟨rfl,rfl⟩ | ⟨g,cap,cur,rfl,_,_,Q6,_⟩;{simp [Builtin.append_,run_underlying ht,sizeOf,typeInfo,hi,Builtin.lenOf,Builtin.firstCells]};{simp [Builtin.append_,run_underlying ht,sizeOf,typeInfo,hi,Builtin.lenOf,Builtin.firstCells,Q6,storeCells]}
theorem Fu (p:Option Addr) (c:Nat) (l:List Int) (w:World) (h:Rd w (.S p l.length c) l) (hl:l.length<=2097152) :
  Calls prog 126 #[.S p l.length c] w fun e w'=>∃ p' c',e=.returned (.S p' l.length c')/\Own w.heap.size w' (.S p' l.length c') l/\Bw w w':=by
 obtain ⟨i,hi,mw,iT,jW⟩:=info_parts Tryz.infoByte;cases p with
 | none=>
  have e:=h.oz;subst e;have Ym:=fun w:World=>dX (P:=prog) w 0 22 22 5 i 1 underlying22 hi _ 0 [] c (World.ownsRow_nil w 0 5 1);go_enter func126,ntmps126;go_wp2;go_ret;exact ⟨none,0,rfl,World.ownsRow_nil _ _ _ _,Below.refl _ _⟩
 | some a=>
  obtain ⟨n1,n2,n3⟩:=h.news;go_enter func126,ntmps126;go_wp2_with (at_builtin;refine wpList_append_own _ rfl _ _ 22 rfl w.heap.size 5 i (.int .u8 0) 1 1 underlying22 hi mw iT jW rfl bl _ _ _ rfl (World.ownsRow_nil _ _ _ _) a _ c (U l) rfl n1 n2 n3 jC ab aA ?_);intro v' w1 br hg _;have ho:Own w.heap.size w1 v' l:=by simpa using br
  obtain ⟨p',c',rfl⟩:=ho.form;have hb:=oO hg;go_wp2;go_ret;exact ⟨p',c',rfl,ho,hb⟩
theorem lY {w:World} {Q:Exit->Act->World->Prop} (jK:o.guard=none) (s x:Operand)
  (ho:o.op=.call { callee:=.builtin .append,args:=#[s,x],argTypes:=#[22,22] })
  (B:Nat) (v:Value) (l m lm:List Int) (Gf:Hid (lm=l++m)) (p:Option Addr) (c:Nat) (hs:a.eval s=v) (hx:a.eval x=.S p m.length c) (br:Own B w v l) (hr:Rd w (.S p m.length c) m)
  (hl:l.length+m.length<=4194304) (hB:B<=w.heap.size)
  (hK:∀ p' c' w',Own B w' (.S p' lm.length c') lm->w.grownBy w' v.ownBlock->wpList prog ops Q rest (a.put o.dst (.S p' lm.length c')) w'):wpList prog ops Q (o::rest) a w:=by
 obtain ⟨i,hi,mw,iT,jW⟩:=info_parts Tryz.infoByte;have e:=aa Gf;subst e;cases p with
 | none=>
  have e:=hr.oz;subst e;obtain ⟨pv,cv,rfl⟩:=br.form;have Ym:=dX (P:=prog) w B 22 o.type 5 i 1 underlying22 hi _ _ _ c br;refine Lib.wpList_append_run w jK s x 22 22 ho _ _ hs hx _ _ Ym ?_;have:=hK pv cv w (by simpa using br) ⟨rfl,rfl,rfl,Nat.le_refl _,fun _ _ _=>rfl⟩;simpa using this
 | some ad=>
  obtain ⟨n1,n2,n3⟩:=hr.news;refine wpList_append_own w jK s x 22 ho B 5 i (.int .u8 0) 1 1 underlying22 hi mw iT jW rfl bl v _ _ hs br ad _ c (U m) hx n1 n2 n3 jC ab hB ?_;intro v' w' h1 h2 _;have vF:Own B w' v' (l++m):=by unfold Own;rw [List.length_append,U,List.map_append];exact h1
  obtain ⟨p',c',rfl⟩:=vF.form;exact hK p' c' w' vF h2
theorem DR (n:Nat) (w:World) (hn:n<=4194304) :
  Calls prog 163 #[.S none 0 0,.I n] w fun e w'=>∃ p' c',e=.returned (.S p' 0 c')/\Own w.heap.size w' (.S p' 0 c') []/\Bw w w':=by
 obtain ⟨i,hi,mw,iT,jW⟩:=info_parts Tryz.infoByte;by_cases h:n=0;{subst h;go_enter func163,ntmps163;go_wp2;go_ret;exact ⟨none,0,rfl,World.ownsRow_nil _ _ _ _,Below.refl _ _⟩};{
 have hp:=ja 0 n;have hr:=Lib.run_append_nil_zeros (P:=prog) w 22 3 22 5 i (.int .u8 0) .i64 .i64 underlying22 underlying3 hi mw n ab ab ab (by rw [jW];omega);have HR:=ae hr;have qP:=grownCap_ge w n 0 5;have Bn:=grownCap_le_maxLen w n 0 5 jC;generalize grownCap w n 0 5=cc at HR qP Bn;go_enter func163,ntmps163;go_wp2_with (at_builtin;refine Lib.wpList_append_run _ rfl _ _ _ _ rfl _ _ rfl rfl _ _ (by exact HR) ?_);unfold maxLen at Bn;go_wp2;go_ret;have hs:(Builtin.zeroCells #[Value.int IntKind.u8 0] n++Builtin.zeroCells #[Value.int IntKind.u8 0] (cc-n)).size=cc*1:=by rw [Array.size_append,size_zeroCells,size_zeroCells];simp;omega
 exact ⟨_,cc,rfl,World.ownsRow_made (base:=w.heap.size) (e:=5) (size:=1) w _ cc aA jC hs,(aJ.alloc aA _).drew⟩}
def uK (w:World) (g:Nat) (vs:List Value) (ls:List (List Int)):Prop:=
 vs.length=ls.length/\∀ j v l,vs[j]?=some v->ls[j]?=some l->w.cell? ⟨g,j,none⟩=some v/\Rd w v l
theorem uK.below {w w':World} (h:uK w g vs ls) (hb:Bw w w'):uK w' g vs ls:=
 ⟨h.1,fun j v l e1 e2=>⟨af (h.2 j v l e1 e2).1 hb,(h.2 j v l e1 e2).2.below hb⟩⟩
theorem uK.get {w:World} (h:uK w g vs ls) (j:Nat) (hj:j<ls.length):∃ (p:Option Addr) (c:Nat) (l:List Int),ls[j]?=some l/\w.cell? ⟨g,j,none⟩=some (.S p l.length c)/\Rd w (.S p l.length c) l:=by
 have hv:j<vs.length:=by rw [h.1];exact hj
 obtain ⟨h1,h2⟩:=h.2 j vs[j] ls[j] (aK hv) (aK hj);obtain ⟨p,c,e,hh⟩:=id h2;exact ⟨p,c,ls[j],aK hj,by rw [h1,e],by rw [e] at h2;exact h2⟩
def cat (ls:List (List Int)):List Int:=ls.flatten
theorem vg:cat []=[]:=rfl
theorem af5 (l:List Int):cat [l]=l:=by simp [cat]
theorem af3 (l m:List Int):cat [l,m]=l++m:=by simp [cat]
theorem Ag (ls:List (List Int)) (k:Nat) (l:List Int) (h:ls[k]?=some l):cat (ls.take (k+1))=cat (ls.take k)++l:=by
 obtain ⟨hk,e⟩:=aN.1 h;unfold cat;rw [List.take_succ_eq_append_getElem hk,List.flatten_append,e];simp only [List.flatten_cons,List.flatten_nil,List.append_nil]
theorem vI (ls:List (List Int)) (k:Nat):(cat (ls.take k)).length<=(cat ls).length:=by
 have e:cat ls=cat (ls.take k)++cat (ls.drop k):=by unfold cat;rw [<-List.flatten_append,List.take_append_drop]
 rw [e,List.length_append];omega
theorem Gn (g:Nat) (vs:List Value) (ls:List (List Int)) (w:World) (h:uK w g vs ls) (hl:(cat ls).length<=4194304) (hk:ls.length<=1000) :
  Calls prog 128 #[.S (some ⟨g,0,none⟩) ls.length ls.length] w fun e w'=>∃ p' c',e=.returned (.S p' (cat ls).length c')/\Own w.heap.size w' (.S p' (cat ls).length c') (cat ls)/\Bw w w':=by
 obtain ⟨i,hi,mw,iT,jW⟩:=info_parts Tryz.infoByte;go_enter func128,ntmps128;go_wp2
 go_loopw [3,11] (fun s i wr=>∃ k:Nat,k<=ls.length/\i=.I k/\s=.I ((cat (ls.take k)).length:Nat)/\Bw w wr) (fun _ i _=>ls.length-(intOf i).toNat)
 case atStart=>exact ⟨0,Nat.zero_le _,rfl,by simp [cat],Below.refl _ _⟩
 case round =>(
 obtain ⟨k,nw,rfl,rfl,aR⟩:=hrel;have Wd:=vI ls k;by_cases bj:k<ls.length;{
 obtain ⟨p,c,l,e1,e2,e3⟩:=(h.below aR).get k bj;have dz:=Ag ls k l e1;have Wn:(cat (ls.take k)).length+l.length=(cat (ls.take (k+1))).length:=by rw [dz];simp
 have MA:=vI ls (k+1);have hle:(cat (ls.take k)).length+l.length<=4194304:=ab;have HL:=ae Wn;generalize (cat (ls.take k)).length=a at *;go_wp2;go_roundw
 case rel=>exact ⟨k+1,ab,by go_num,by rw [<-aa HL];go_num,aR⟩
 exact dC};{
 have e:k=ls.length:=ab;subst e;rw [List.take_length];rw [List.take_length] at Wd;go_wp2_with fail;refine (DR _ _ hl).mono ?_;rintro e w1 ⟨p1,c1,rfl,o1,bq⟩;replace o1:Own w.heap.size w1 (.S p1 0 c1) []:=o1.mono aR.size;have b1:=ah aR bq;go_wp2
 go_loopw [6,27] (fun v i wr=>∃ k:Nat,k<=ls.length/\i=.I k/\(∃ p c,v=.S p (cat (ls.take k)).length c/\Own w.heap.size wr v (cat (ls.take k)))/\Bw w wr) (fun _ i _=>ls.length-(intOf i).toNat)
 case atStart=>exact ⟨0,Nat.zero_le _,rfl,⟨p1,c1,by simp [cat],by simpa [cat] using o1⟩,b1⟩
 case round =>(
 obtain ⟨k,nw,rfl,⟨pv,cv,rfl,ho⟩,aR⟩:=hrel;have Wd:=vI ls k;by_cases bj:k<ls.length;{
 obtain ⟨p,c,l,e1,e2,e3⟩:=(h.below aR).get k bj;have dz:=Ag ls k l e1;have MA:=vI ls (k+1);have hle:(cat (ls.take k)).length+l.length<=4194304:=by have:=congrArg List.length dz;simp only [List.length_append] at this;omega
 have HS:=ae dz;generalize (cat (ls.take k))=a at *;cases p with
 | none=>
  have e:=e3.oz;subst e;have HA:=ae (dX (P:=prog) wr w.heap.size 22 22 5 i 1 underlying22 hi _ _ _ c ho);go_wp2_with (at_builtin;refine Lib.wpList_append_run _ rfl _ _ _ _ rfl _ _ rfl rfl _ _ (by exact HA) ?_);go_roundw
  case rel=>exact ⟨k+1,ab,by go_num,⟨pv,cv,by rw [aa HS];simp,by rw [aa HS];simpa using ho⟩,aR⟩
  exact dC
 | some ad=>
  obtain ⟨n1,n2,n3⟩:=e3.news;go_wp2_with (at_builtin;refine wpList_append_own _ rfl _ _ 22 rfl w.heap.size 5 i (.int .u8 0) 1 1 underlying22 hi mw iT jW rfl bl _ _ _ rfl ho ad _ c (U l) rfl n1 n2 n3 jC ab aR.size ?_);intro v' w2 br hg _;have b2:Bw w w2:=aR.grown hg aR.size (fun k hk=>(ho.lt k hk).1);have vF:Own w.heap.size w2 v' (a++l):=by unfold Own;rw [List.length_append,U,List.map_append];exact br
  obtain ⟨p',c',rfl⟩:=vF.form;go_wp2;go_roundw
  case rel=>exact ⟨k+1,ab,by go_num,⟨p',c',by rw [aa HS],by rw [aa HS];exact vF⟩,b2⟩
  exact dC};{have e:k=ls.length:=ab;subst e;rw [List.take_length] at ho;go_wp2;go_ret;exact ⟨pv,cv,by rw [List.take_length];rfl,ho,aR⟩})})
theorem ru {w:World} {Q:Exit->Act->World->Prop} (jK:o.guard=none) (s x:Operand)
  (ho:o.op=.call { callee:=.builtin .append,args:=#[s,x],argTypes:=#[22,22] })
  (B:Nat) (v:Value) (l m lm:List Int) (Gf:Hid (lm=l++m)) (p:Option Addr) (c k:Nat) (hk:Hid (m.length=k)) (hs:a.eval s=v) (hx:a.eval x=.S p k c) (br:Own B w v l) (hr:Rd w (.S p k c) m)
  (hl:l.length+m.length<=4194304) (hB:B<=w.heap.size)
  (hK:∀ p' c' w',Own B w' (.S p' lm.length c') lm->w.grownBy w' v.ownBlock->wpList prog ops Q rest (a.put o.dst (.S p' lm.length c')) w'):wpList prog ops Q (o::rest) a w:=by
 have e:=aa hk;subst e;exact lY jK s x ho B v l m lm Gf p c hs hx br hr hl hB hK
theorem Iu {w:World} {K:Act->World->Prop} {Q:Exit->Act->World->Prop} {E:Prop} {R:Ending->World->Prop} (jK:o.guard=none) (f:FuncId) (x1 x2 x3:Operand) (Cq:Array TypeId)
  (ho:o.op=.call { callee:=.value (.func f),args:=#[x1,x2,x3],argTypes:=Cq }) (v1 v2 v3:Value) (h1:a.eval x1=v1) (h2:a.eval x2=v2) (h3:a.eval x3=v3) (ve:∀ vs,(callFunc f vs).run P w=.ok (.enter f vs) w) (hc:Calls P f #[v1,v2,v3] w R) (hR:∀ e w',R e w'->∃ v,e=.returned v/\K (a.put o.dst v) w') :
  if Region.wanted o (yielded ops a.tmps)=true then Oper.wp P o a w K Q else E:=by
 have hw:Region.wanted o (yielded ops a.tmps)=true:=by simp [Region.wanted,jK]
 rw [if_pos hw];have cK:(execOp a.eval o).run P w=.ok (.enter f #[v1,v2,v3]) w:=by subst h1 h2 h3;unfold execOp;simp [go_sem,ho,resolve,invoke,ve]
 show o.upon P a K Q _;rw [cK,Oper.upon_enter];refine hc.mono ?_;intro e w' h;obtain ⟨v,rfl,hk⟩:=hR e w' h;exact hk
theorem Own.one (w:World) (y:Int):Own w.heap.size (w.alloc (.cells #[.int .u8 y] 5)) (.S (some ⟨w.heap.size,0,none⟩) 1 1) [y]:=
 World.ownsRow_lit w #[.int .u8 y] 1 aA jC rfl
theorem below_grown {a w w':World} {C:Nat} (h:Below B a w) (hg:w.grownBy w' v.ownBlock) (ho:Own C w v l) (hC:B<=C) (hB:B<=w.heap.size):Below B a w':=
 h.grown hg hB (fun k e=>by have:=(ho.lt k e).1;omega)
theorem ga {w:World} {Q:Exit->Act->World->Prop} (jK:o.guard=none) (s x:Operand)
  (ho:o.op=.call { callee:=.builtin .append,args:=#[s,x],argTypes:=#[22,22] })
  (B:Nat) (v:Value) (l lm:List Int) (y:Int) (Gf:Hid (lm=l++[y])) (g:Nat) (hs:a.eval s=v) (hx:a.eval x=.S (some ⟨g,0,none⟩) 1 1) (br:Own B w v l) (hc:w.cell? ⟨g,0,none⟩=some (.int .u8 y))
  (hl:l.length<4194304) (hB:B<=w.heap.size)
  (h:∀ p' c' w',Own B w' (.S p' lm.length c') lm->w.grownBy w' v.ownBlock->wpList prog ops Q rest (a.put o.dst (.S p' lm.length c')) w'):wpList prog ops Q (o::rest) a w:=by
 have hr:Rd w (.S (some ⟨g,0,none⟩) 1 1) [y]:=by
  refine ⟨_,_,rfl,.inr ⟨g,0,rfl,fun i hi=>?_⟩⟩;have e:i=0:=by simpa using hi
  subst e;simpa using hc
 exact lY jK s x ho B v l [y] lm Gf (some ⟨g,0,none⟩) 1 hs hx br hr dx hB h
end Go.Proofs.YtcfcafeciggjeaaGreatDoor
