import Derived.Test.YtcfcafeciggjeaaGreatDoorK0
import Derived.Lib.AppendZeros
import Derived.Deep.RegionLaw
namespace Go.Proofs.YtcfcafeciggjeaaGreatDoor
set_option maxHeartbeats 800000
set_option linter.unusedVariables false
set_option linter.unusedSimpArgs false
set_option maxRecDepth 100000
open Go.ChangeShapes Go.WideShapes Go.ChangeAt Go.RowKit Go.Deep Go.Proofs.Tryz
variable {P:Program} {a:Act} {c g:Nat} {l:List Int} {ls:List (List Int)} {o:Oper} {ops:Array Oper} {vs:List Value} {w:World}
theorem Own.form {B:Nat} {v:Value} (h:Own B w v l):∃ p c,v=.slice p l.length c:=by
 rcases h.2 with ⟨rfl,h0⟩ | ⟨g,cap,cur,rfl,_⟩;{exact ⟨none,0,by rw [h0]⟩};{exact ⟨_,_,rfl⟩}
theorem Rd.news {a:Addr} (h:Rd w (.slice (some a) l.length c) l):(U l).length=l.length*1/\(∀ j u,(U l)[j]?=some u->w.cell? (a.add j)=some u)/\(∀ u∈U l,u.oneCell'=true):=by
 refine ⟨by simp,?_,?_⟩;{
 intro j u hj;obtain ⟨p,cap,e,h⟩:=h;simp only [Value.slice.injEq] at e;obtain ⟨rfl,-,rfl⟩:=e;rcases h with rfl | ⟨b,o,e,hc⟩;{simp at hj};{
 simp only [Option.some.injEq] at e;subst e;have wu:j<l.length:=by have:=(aJ.1 hj).1;simpa using this
 have:=hc j wu;rw [Addr.add_lit,this];simp [List.getD,aE wu] at hj ⊢;exact hj}};{
 intro u hu;obtain ⟨x,_,rfl⟩:=List.mem_map.1 hu
 rfl}
theorem Rd.lr (h:Rd w (.slice none l.length c) l):l=[]:=by
 obtain ⟨p,cap,e,h⟩:=h;simp only [Value.slice.injEq] at e;obtain ⟨rfl,-,rfl⟩:=e;rcases h with rfl | ⟨b,o,e,hc⟩;{rfl}
 {cases e}
theorem dx (w:World) (base:Nat) (t ty e:TypeId) (i:TypeInfo) (size:Nat) (ht:P.underlying t=some (.slice e)) (hi:P.info? e=some i)
  (v:Value) (n:Nat) (xs:List Value) (c:Nat) (bj:w.ownsRow base e size v n xs) :
  (Builtin.append_ #[t,t] ty #[v,.slice none 0 c]).run P w=.ok v w:=by
 rcases bj.2 with ⟨rfl,rfl⟩ | ⟨g,cap,cur,rfl,_,_,Ky,_⟩;{simp [Builtin.append_,run_underlying ht,sizeOf,typeInfo,hi,Builtin.lenOf,Builtin.firstCells]};{simp [Builtin.append_,run_underlying ht,sizeOf,typeInfo,hi,Builtin.lenOf,Builtin.firstCells,Ky,storeCells]}
theorem AO (p:Option Addr) (c:Nat) (l:List Int) (w:World) (h:Rd w (.slice p l.length c) l) (hl:l.length<=2097152) :
  Calls prog 126 #[.slice p l.length c] w fun e w'=>∃ p' c',e=.returned (.slice p' l.length c')/\Own w.heap.size w' (.slice p' l.length c') l/\Below w.heap.size w w':=by
 obtain ⟨i,hi,mX,ik,jv⟩:=info_parts Tryz.infoByte;cases p with
 | none=>
  have e:=h.lr;subst e;have Ji:=fun w:World=>dx (P:=prog) w 0 22 22 5 i 1 underlying22 hi _ 0 [] c (World.ownsRow_nil w 0 5 1);go_enter func126,ntmps126;go_wp2;go_ret;exact ⟨none,0,rfl,World.ownsRow_nil _ _ _ _,Below.refl _ _⟩
 | some a=>
  obtain ⟨n1,n2,n3⟩:=h.news;go_enter func126,ntmps126;go_wp2_with (at_builtin;refine wpList_append_own _ rfl _ _ 22 rfl w.heap.size 5 i (.int .u8 0) 1 1 underlying22 hi mX ik jv rfl (by decide) _ _ _ rfl (World.ownsRow_nil _ _ _ _) a _ c (U l) rfl n1 n2 n3 (by unfold maxLen;omega) (by omega) ax ?_);intro v' w1 bj hg _;have ho:Own w.heap.size w1 v' l:=by simpa using bj
  obtain ⟨p',c',rfl⟩:=ho.form;have hb:=lQ hg;go_wp2;go_ret;exact ⟨p',c',rfl,ho,hb⟩
theorem pX {rest:List Oper} {Q:Exit->Act->World->Prop} (jw:o.guard=none) (s x:Operand)
  (ho:o.op=.call { callee:=.builtin .append,args:=#[s,x],argTypes:=#[22,22] })
  (B:Nat) (v:Value) (l m lm:List Int) (Jo:Hid (lm=l++m)) (p:Option Addr) (c:Nat) (hs:a.eval s=v) (hx:a.eval x=.slice p m.length c) (bj:Own B w v l) (hr:Rd w (.slice p m.length c) m)
  (hl:l.length+m.length<=4194304) (hB:B<=w.heap.size)
  (hK:∀ p' c' w',Own B w' (.slice p' lm.length c') lm->w.grownBy w' v.ownBlock->wpList prog ops Q rest (a.put o.dst (.slice p' lm.length c')) w'):wpList prog ops Q (o::rest) a w:=by
 obtain ⟨i,hi,mX,ik,jv⟩:=info_parts Tryz.infoByte;have e:=aa Jo;subst e;cases p with
 | none=>
  have e:=hr.lr;subst e;obtain ⟨pv,cv,rfl⟩:=bj.form;have Ji:=dx (P:=prog) w B 22 o.type 5 i 1 underlying22 hi _ _ _ c bj;refine Lib.wpList_append_run w jw s x 22 22 ho _ _ hs hx _ _ Ji ?_;have:=hK pv cv w (by simpa using bj) ⟨rfl,rfl,rfl,Nat.le_refl _,fun _ _ _=>rfl⟩;simpa using this
 | some ad=>
  obtain ⟨n1,n2,n3⟩:=hr.news;refine wpList_append_own w jw s x 22 ho B 5 i (.int .u8 0) 1 1 underlying22 hi mX ik jv rfl (by decide) v _ _ hs bj ad _ c (U m) hx n1 n2 n3 (by unfold maxLen;omega) (by omega) hB ?_;intro v' w' h1 h2 _;have um:Own B w' v' (l++m):=by unfold Own;rw [List.length_append,U,List.map_append];exact h1
  obtain ⟨p',c',rfl⟩:=um.form;exact hK p' c' w' um h2
theorem yK (n:Nat) (w:World) (hn:n<=4194304) :
  Calls prog 163 #[.slice none 0 0,.int .i64 n] w fun e w'=>∃ p' c',e=.returned (.slice p' 0 c')/\Own w.heap.size w' (.slice p' 0 c') []/\Below w.heap.size w w':=by
 obtain ⟨i,hi,mX,ik,jv⟩:=info_parts Tryz.infoByte;by_cases h:n=0;{subst h;go_enter func163,ntmps163;go_wp2;go_ret;exact ⟨none,0,rfl,World.ownsRow_nil _ _ _ _,Below.refl _ _⟩};{
 have hp:(0:Int)<(n:Int):=by omega
 have hr:=Lib.run_append_nil_zeros (P:=prog) w 22 3 22 5 i (.int .u8 0) .i64 .i64 underlying22 underlying3 hi mX n (by omega) (by omega) (by omega) (by rw [jv];omega);have HR:=ae hr;have nS:=grownCap_ge w n 0 5;have wN:=grownCap_le_maxLen w n 0 5 (by unfold maxLen;omega);generalize grownCap w n 0 5=cc at HR nS wN;go_enter func163,ntmps163;go_wp2_with (at_builtin;refine Lib.wpList_append_run _ rfl _ _ _ _ rfl _ _ rfl rfl _ _ (by exact HR) ?_);unfold maxLen at wN;go_wp2;go_ret;have hs:(Builtin.zeroCells #[Value.int IntKind.u8 0] n++Builtin.zeroCells #[Value.int IntKind.u8 0] (cc-n)).size=cc*1:=by rw [Array.size_append,size_zeroCells,size_zeroCells];simp;omega
 exact ⟨_,cc,rfl,World.ownsRow_made (base:=w.heap.size) (e:=5) (size:=1) w _ cc ax (by unfold maxLen;omega) hs,(ay.alloc ax _).drew⟩}
def qQ (w:World) (g:Nat) (vs:List Value) (ls:List (List Int)):Prop:=
 vs.length=ls.length/\∀ j v l,vs[j]?=some v->ls[j]?=some l->w.cell? ⟨g,j,none⟩=some v/\Rd w v l
theorem qQ.below {w':World} (h:qQ w g vs ls) (hb:Below w.heap.size w w'):qQ w' g vs ls:=
 ⟨h.1,fun j v l e1 e2=>⟨af (h.2 j v l e1 e2).1 hb,(h.2 j v l e1 e2).2.below hb⟩⟩
theorem qQ.get (h:qQ w g vs ls) (j:Nat) (hj:j<ls.length):∃ (p:Option Addr) (c:Nat) (l:List Int),ls[j]?=some l/\w.cell? ⟨g,j,none⟩=some (.slice p l.length c)/\Rd w (.slice p l.length c) l:=by
 have hv:j<vs.length:=by rw [h.1];exact hj
 obtain ⟨h1,h2⟩:=h.2 j vs[j] ls[j] (aE hv) (aE hj);obtain ⟨p,c,e,hh⟩:=id h2;exact ⟨p,c,ls[j],aE hj,by rw [h1,e],by rw [e] at h2;exact h2⟩
def cat (ls:List (List Int)):List Int:=ls.flatten
theorem vo (ls:List (List Int)) (k:Nat) (l:List Int) (h:ls[k]?=some l):cat (ls.take (k+1))=cat (ls.take k)++l:=by
 obtain ⟨hk,e⟩:=aJ.1 h;unfold cat;rw [List.take_succ_eq_append_getElem hk,List.flatten_append,e];simp only [List.flatten_cons,List.flatten_nil,List.append_nil]
theorem rI (ls:List (List Int)) (k:Nat):(cat (ls.take k)).length<=(cat ls).length:=by
 have e:cat ls=cat (ls.take k)++cat (ls.drop k):=by unfold cat;rw [<-List.flatten_append,List.take_append_drop]
 rw [e,List.length_append];omega
theorem BK (g:Nat) (vs:List Value) (ls:List (List Int)) (w:World) (h:qQ w g vs ls) (hl:(cat ls).length<=4194304) (hk:ls.length<=1000) :
  Calls prog 128 #[.slice (some ⟨g,0,none⟩) ls.length ls.length] w fun e w'=>∃ p' c',e=.returned (.slice p' (cat ls).length c')/\Own w.heap.size w' (.slice p' (cat ls).length c') (cat ls)/\Below w.heap.size w w':=by
 obtain ⟨i,hi,mX,ik,jv⟩:=info_parts Tryz.infoByte;go_enter func128,ntmps128;go_wp2
 go_loopw [3,11] (fun s i wr=>∃ k:Nat,k<=ls.length/\i=.int .i64 k/\s=.int .i64 ((cat (ls.take k)).length:Nat)/\Below w.heap.size w wr) (fun _ i _=>ls.length-(intOf i).toNat)
 case atStart=>exact ⟨0,Nat.zero_le _,rfl,by simp [cat],Below.refl _ _⟩
 case round =>(
 obtain ⟨k,oe,rfl,rfl,aT⟩:=hrel;have Hi:=rI ls k;by_cases br:k<ls.length;{
 obtain ⟨p,c,l,e1,e2,e3⟩:=(h.below aT).get k br;have cF:=vo ls k l e1;have MG:(cat (ls.take k)).length+l.length=(cat (ls.take (k+1))).length:=by rw [cF];simp
 have Hh:=rI ls (k+1);have hle:(cat (ls.take k)).length+l.length<=4194304:=by omega
 have HL:=ae MG;generalize (cat (ls.take k)).length=a at *;go_wp2;go_roundw
 case rel=>exact ⟨k+1,by omega,by go_num,by rw [<-aa HL];go_num,aT⟩
 case measure=>simp [intOf];omega}
 {
 have e:k=ls.length:=by omega
 subst e;rw [List.take_length];rw [List.take_length] at Hi;go_wp2_with fail;refine (yK _ _ hl).mono ?_;rintro e w1 ⟨p1,c1,rfl,o1,bf⟩;replace o1:Own w.heap.size w1 (.slice p1 0 c1) []:=o1.mono aT.size;have b1:=ai aT bf;go_wp2
 go_loopw [6,27] (fun v i wr=>∃ k:Nat,k<=ls.length/\i=.int .i64 k/\(∃ p c,v=.slice p (cat (ls.take k)).length c/\Own w.heap.size wr v (cat (ls.take k)))/\Below w.heap.size w wr) (fun _ i _=>ls.length-(intOf i).toNat)
 case atStart=>exact ⟨0,Nat.zero_le _,rfl,⟨p1,c1,by simp [cat],by simpa [cat] using o1⟩,b1⟩
 case round =>(
 obtain ⟨k,oe,rfl,⟨pv,cv,rfl,ho⟩,aT⟩:=hrel;have Hi:=rI ls k;by_cases br:k<ls.length;{
 obtain ⟨p,c,l,e1,e2,e3⟩:=(h.below aT).get k br;have cF:=vo ls k l e1;have Hh:=rI ls (k+1);have hle:(cat (ls.take k)).length+l.length<=4194304:=by have:=congrArg List.length cF;simp only [List.length_append] at this;omega
 have HS:=ae cF;generalize (cat (ls.take k))=a at *;cases p with
 | none=>
  have e:=e3.lr;subst e;have HA:=ae (dx (P:=prog) wr w.heap.size 22 22 5 i 1 underlying22 hi _ _ _ c ho);go_wp2_with (at_builtin;refine Lib.wpList_append_run _ rfl _ _ _ _ rfl _ _ rfl rfl _ _ (by exact HA) ?_);go_roundw
  case rel=>exact ⟨k+1,by omega,by go_num,⟨pv,cv,by rw [aa HS];simp,by rw [aa HS];simpa using ho⟩,aT⟩
  case measure=>simp [intOf];omega
 | some ad=>
  obtain ⟨n1,n2,n3⟩:=e3.news;go_wp2_with (at_builtin;refine wpList_append_own _ rfl _ _ 22 rfl w.heap.size 5 i (.int .u8 0) 1 1 underlying22 hi mX ik jv rfl (by decide) _ _ _ rfl ho ad _ c (U l) rfl n1 n2 n3 (by unfold maxLen;omega) (by omega) aT.size ?_);intro v' w2 bj hg _;have b2:Below w.heap.size w w2:=aT.grown hg aT.size (fun k hk=>(ho.lt k hk).1);have um:Own w.heap.size w2 v' (a++l):=by unfold Own;rw [List.length_append,U,List.map_append];exact bj
  obtain ⟨p',c',rfl⟩:=um.form;go_wp2;go_roundw
  case rel=>exact ⟨k+1,by omega,by go_num,⟨p',c',by rw [aa HS],by rw [aa HS];exact um⟩,b2⟩
  case measure=>simp [intOf];omega}
 {
 have e:k=ls.length:=by omega
 subst e;rw [List.take_length] at ho;go_wp2;go_ret;exact ⟨pv,cv,by rw [List.take_length];rfl,ho,aT⟩})})
theorem DC {K:Act->World->Prop} {Q:Exit->Act->World->Prop} {E:Prop} {R:Ending->World->Prop} (jw:o.guard=none) (f:FuncId) (x1 x2 x3:Operand) (An:Array TypeId)
  (ho:o.op=.call { callee:=.value (.func f),args:=#[x1,x2,x3],argTypes:=An }) (v1 v2 v3:Value) (h1:a.eval x1=v1) (h2:a.eval x2=v2) (h3:a.eval x3=v3) (sP:∀ vs,(callFunc f vs).run P w=.ok (.enter f vs) w) (hc:Calls P f #[v1,v2,v3] w R) (hR:∀ e w',R e w'->∃ v,e=.returned v/\K (a.put o.dst v) w') :
  if Region.wanted o (yielded ops a.tmps)=true then Oper.wp P o a w K Q else E:=by
 have hw:Region.wanted o (yielded ops a.tmps)=true:=by simp [Region.wanted,jw]
 rw [if_pos hw];have du:(execOp a.eval o).run P w=.ok (.enter f #[v1,v2,v3]) w:=by subst h1 h2 h3;unfold execOp;simp [go_sem,ho,resolve,invoke,sP]
 show o.upon P a K Q _;rw [du,Oper.upon_enter];refine hc.mono ?_;intro e w' h;obtain ⟨v,rfl,hk⟩:=hR e w' h;exact hk
theorem Own.one (w:World) (y:Int):Own w.heap.size (w.alloc (.cells #[.int .u8 y] 5)) (.slice (some ⟨w.heap.size,0,none⟩) 1 1) [y]:=
 World.ownsRow_lit w #[.int .u8 y] 1 ax (by unfold maxLen;omega) rfl
theorem fL {rest:List Oper} {Q:Exit->Act->World->Prop} (jw:o.guard=none) (s x:Operand)
  (ho:o.op=.call { callee:=.builtin .append,args:=#[s,x],argTypes:=#[22,22] })
  (B:Nat) (v:Value) (l lm:List Int) (y:Int) (Jo:Hid (lm=l++[y])) (g:Nat) (hs:a.eval s=v) (hx:a.eval x=.slice (some ⟨g,0,none⟩) 1 1) (bj:Own B w v l) (hc:w.cell? ⟨g,0,none⟩=some (.int .u8 y))
  (hl:l.length<4194304) (hB:B<=w.heap.size)
  (h:∀ p' c' w',Own B w' (.slice p' lm.length c') lm->w.grownBy w' v.ownBlock->wpList prog ops Q rest (a.put o.dst (.slice p' lm.length c')) w'):wpList prog ops Q (o::rest) a w:=by
 have hr:Rd w (.slice (some ⟨g,0,none⟩) 1 1) [y]:=by
  refine ⟨_,_,rfl,.inr ⟨g,0,rfl,fun i hi=>?_⟩⟩;have e:i=0:=by simpa using hi
  subst e;simpa using hc
 exact pX jw s x ho B v l [y] lm Jo (some ⟨g,0,none⟩) 1 hs hx bj hr (by simp;omega) hB h
end Go.Proofs.YtcfcafeciggjeaaGreatDoor
