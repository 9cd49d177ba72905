import Derived.Test.YtcfcafeciggjeaaGreatDoorK8
namespace Go.Proofs.YtcfcafeciggjeaaGreatDoor
set_option maxHeartbeats 1600000
set_option linter.all false
set_option maxRecDepth 100000
open Go.ChangeShapes Go.WideShapes Go.ChangeAt Go.RowKit Go.Proofs.Tryz
variable {ns:List aD} {v:Value}
theorem tT (w:World) (C:Array Value) (e:TypeId) (fr:Nat × Nat) (i:Nat):(w.alloc (.cells C e fr)).cell? ⟨w.heap.size,i,none⟩=C[i]?:=by
 have h:(w.alloc (.cells C e fr)).heap[w.heap.size]?=some (.cells C e fr):=by show (w.heap.push (.cells C e fr))[w.heap.size]?=_;simp
 unfold World.cell?;rw [h]
 rfl
def Cb (l:List Int) (k:Nat):Nat:=(List.range k).foldl (fun a i=>if l.getD i 0=47 then i else a) 0
theorem te (l:List Int) (k:Nat):Cb l (k+1)=if l.getD k 0=47 then k else Cb l k:=by
 rw [Cb,List.range_succ,List.foldl_append];rfl
def dm (l:List Int):List Int:=if Cb l l.length=0 then [47] else l.take (Cb l l.length)
theorem iS (p:Option Addr) (c n:Nat) (l:List Int) (en:Hid (l.length=n)) (w:World) (h:Rd w (.S p n c) l) (hn:n<=1048576) (hc:n<=c) (Bn:c<=maxLen) :
  Calls prog 88 #[.S p n c] w fun r w'=>∃ q m d,r=.returned (.S q m d)/\(dm l).length=m/\m<=n+1/\Rd w' (.S q m d) (dm l)/\Bw w w':=by
 have HR:=ae h;clear h;go_enter func88,ntmps88;go_wp2_with fail
 go_loopw [3,4] (fun av iv wr=>∃ k a:Nat,k<=n/\iv=.I k/\av=.I a/\a<=k/\Hid (Cb l k=a)/\wr=w) (fun _ iv _=>n-(intOf iv).toNat)
 case atStart=>exact ⟨0,0,Nat.zero_le _,rfl,rfl,Nat.le_refl _,cw,rfl⟩
 case round =>(
 obtain ⟨k,a,hk,rfl,rfl,hak,X8,rfl⟩:=hrel;by_cases bj:k<n;{
 have da:=aT k n;have fL:k<l.length:=by rw [aa en];exact bj
 obtain ⟨b,o,rfl,-,bG⟩:=HR.at ab;have zO:=bG k fL;have dz:=te l k;obtain ⟨y,ey⟩:=aH (l.getD k 0);rw [ey] at zO dz;clear bG fL ey;by_cases kL:y=47;{
 subst kL;rw [if_pos rfl] at dz;have lr:=ae dz;clear dz;go_wp2;go_roundw
 case rel=>exact ⟨k+1,k,ab,by go_num,rfl,ab,lr,by first | rfl | trivial⟩
 exact dC};{
 have bY3:(y==47)=false:=by simp [kL]
 rw [if_neg kL,aa X8] at dz;have lr:=ae dz;clear dz;go_wp2;go_roundw
 case rel=>exact ⟨k+1,a,ab,by go_num,rfl,ab,lr,by first | rfl | trivial⟩
 exact dC}};{
 have da:=dy k n;have Ex:k=n:=ab;subst Ex;clear hk bj;by_cases ha:a=0;{
 subst ha;have jR:Hid (dm l=[47]):=by show _=_;rw [dm,aa en,aa X8,if_pos rfl]
 have hcv:=Lib.run_convert_bytes_const (P:=prog) wr 22 5 #[.int .u8 47] 1 1 underlying22 underlying5;go_wp2;go_ret;refine ⟨_,_,_,rfl,by rw [aa jR];rfl,ab,?_,aJ.alloc aA _⟩;rw [aa jR];refine ⟨_,_,rfl,.inr ⟨wr.heap.size,0,rfl,fun i hi=>?_⟩⟩
 match i,hi with
 | 0,_=>(rw [Nat.zero_add,tT];rfl)}
 {
 have Tz:((a:Int)==0)=false:=by simp [ha]
 have jR:Hid (dm l=l.take a):=by show _=_;rw [dm,aa en,aa X8,if_neg ha]
 obtain ⟨b,o,rfl,-,-⟩:=HR.at (by rw [aa en];omega);have g1:=vj a k;have g2:=vj a c;have HRC:=HR.cut 0 a (Nat.zero_le _) (by rw [aa en];omega) (some ⟨b,o,none⟩) (.inr rfl) c (l.take a) aU;have HRD:=ae HRC;clear HRC;go_wp2;go_ret;exact ⟨_,_,_,rfl,by rw [aa jR,List.length_take,aa en];omega,ab,by rw [aa jR];exact aa HRD,Below.refl _ _⟩}})
def iH (v:Value):Prop:=∃ p n c,v=.S p n c/\n<=c/\c<=maxLen
structure mY (w:World) (b a:Nat) (nd:aD) (P V H U:Value):Prop where
 c0:w.cell? ⟨b,a,none⟩=some P
 c1:w.cell? ⟨b,a+1,none⟩=some V
 c2:w.cell? ⟨b,a+2,none⟩=some (.U nd.owner)
 c3:w.cell? ⟨b,a+3,none⟩=some (.I nd.mode)
 c4:w.cell? ⟨b,a+4,none⟩=some H
 c5:w.cell? ⟨b,a+5,none⟩=some (.U nd.aB)
 c6:w.cell? ⟨b,a+6,none⟩=some (.U nd.gen)
 c7:w.cell? ⟨b,a+7,none⟩=some U
 r0:Rd w P nd.path
 r1:Rd w V nd.value
 r4:nH w H nd.holders
 r7:nH w U nd.watchers
 k0:iH P
theorem mY.below {w w':World} {b a:Nat} {nd:aD} {P V H U:Value} (h:mY w b a nd P V H U) (hb:Bw w w'):mY w' b a nd P V H U:=
 ⟨af h.c0 hb,af h.c1 hb,af h.c2 hb,af h.c3 hb,af h.c4 hb,af h.c5 hb,af h.c6 hb,af h.c7 hb,h.r0.below hb,h.r1.below hb,h.r4.below hb,h.r7.below hb,h.k0⟩
def kJ (w:World) (v:Value) (ns:List aD):Prop:=
 ∃ (p:Option Addr) (c:Nat),v=.S p ns.length c/\(ns=[]\/∃ b o,p=some ⟨b,o,none⟩/\∀ i nd,ns[i]?=some nd->∃ P V H U,mY w b (o+i*8) nd P V H U)
theorem kJ.below {w w':World} (h:kJ w v ns) (hb:Bw w w'):kJ w' v ns:=by
 obtain ⟨p,c,rfl,h⟩:=h;refine ⟨p,c,rfl,?_⟩;rcases h with h | ⟨b,o,rfl,h⟩;{exact .inl h};{refine .inr ⟨b,o,rfl,fun i e he=>?_⟩;obtain ⟨P,V,H,U,h1⟩:=h i e he;exact ⟨P,V,H,U,h1.below hb⟩}
abbrev JS (P V:Value) (ow mo:Int) (H:Value) (ep ge:Int) (U:Value):Value:=.agg #[P,V,.U ow,.I mo,H,.U ep,.U ge,U]
def dN (e g mo:Int) (nh:Nat) (ep ge:Int):Bool:=
 if mo=1 then nh==1&&(decide (1<=ge)&&(decide (ge<=g)&&decide (ep<=e))) else ep==0&&(ge==0&&(if mo=0 then nh==0 else mo==2&&decide (1<=nh)))
theorem rW (e g x t ow mo ep ge:Int) (S N P V U:Value) (p:Option Addr) (c n:Nat) (w:World) (hn:n<=1048576) (B:Bool) (eB:Hid (dN e g mo n ep ge=B)) :
  Calls prog 91 #[cY e g x t S N,JS P V ow mo (.S p n c) ep ge U] w fun r w'=>r=.returned (.bool B)/\Bw w w':=by
 go_enter func91,ntmps91;go_wp2_with fail
 all_goals (
  go_ret;refine ⟨?_,(aJ.alloc aA _).alloc aU _⟩;rw [<-aa eB];simp only [dN,Ending.returned.injEq,Value.bool.injEq])
 all_goals first | (simp_all;done) | (simp_all;omega) | skip
 all_goals (
  show Value.bool ((n:Int)==0)=Value.bool _
  congr 1
  have e0:mo=0:=(by simpa using ‹(mo==0)=true›);have e1:ge=0:=(by simpa using ‹(ge != 0)=false›);subst e0 e1;rw [Bool.eq_iff_iff]
  simp_all)
theorem kJ.at {w:World} {p:Option Addr} {n c:Nat} (h:kJ w (.S p n c) ns) (hl:0<ns.length):∃ b o,p=some ⟨b,o,none⟩/\∀ i nd,ns[i]?=some nd->∃ P V H U,mY w b (o+i*8) nd P V H U:=by
 obtain ⟨p',c',ev,hd⟩:=h;simp only [Value.slice.injEq] at ev;obtain ⟨rfl,-,-⟩:=ev;rcases hd with h0 | ⟨b,o,h1,h2⟩;{rw [h0] at hl;simp at hl};{exact ⟨b,o,h1,h2⟩}
theorem Rd.gD {w:World} {l:List Int} (h:Rd w v l):∃ p c n,v=.S p n c/\Hid (l.length=n):=by
 obtain ⟨p,c,rfl,-⟩:=h;exact ⟨p,c,_,rfl,cw⟩
theorem List.im {α:Type} {ns:List α} {k:Nat} {y:α} (h:ns[k]?=some y):y::ns.drop (k+1)=ns.drop k:=by
 obtain ⟨hk,rfl⟩:=aN.1 h;exact (List.drop_eq_getElem_cons hk).symm
def fE (ns:List aD) (l:List Int):Option aD:=ns.find? fun nd=>decide (nd.path=l)
theorem mO (e g x t:Int) (p q:Option Addr) (c n d m:Nat) (S:Value) (ns:List aD) (l:List Int) (en:Hid (ns.length=n)) (em:Hid (l.length=m)) (w:World) (h:kJ w (.S p n c) ns) (hl:Rd w (.S q m d) l) (hn:n<=1048576) (hm:m<=2097152)
  (fI:Hid (bM l/\∀ nd∈ns,bM nd.path)) :
  Calls prog 108 #[cY e g x t S (.S p n c),.S q m d] w fun r w'=>((∃ (k:Nat) (nd:aD),r=.returned (.I k)/\k<n/\ns[k]?=some nd/\fE ns l=some nd)\/(r=.returned (.I (-1))/\fE ns l=none))/\Bw w w':=by
 have HR:=ae fun (w':World) (hb:Bw w w')=>ag (h.below hb) (hl.below hb);go_enter func108,ntmps108;go_wp2_with fail;obtain ⟨W,hW⟩:=ax (w.alloc (.cells #[.U e,.U g,.U x,.I t,S,.S p n c] 27));have bW:=ju hW;have Pb:W.cell? ⟨w.heap.size,5,none⟩=some (.S p n c):=by rw [hW];simp
 rw [<-hW];have BW:=ae bW;have NR:=ae Pb
 go_loopw [5] (fun iv wr=>∃ k:Nat,k<=n/\iv=.I k/\Hid (fE (ns.take k) l=none)/\Bw W wr) (fun iv _=>n-(intOf iv).toNat)
 case atStart=>exact ⟨0,Nat.zero_le _,rfl,cw,Below.refl _ _⟩
 case round =>(
 obtain ⟨k,hk,rfl,jS,aR⟩:=hrel;have BB:=ah BW aR;have i5:=af NR aR;by_cases bj:k<n;{
 have da:=aT k n;have fL:k<ns.length:=by rw [aa en];exact bj
 obtain ⟨hN,hL⟩:=aa HR _ BB;obtain ⟨b,o,rfl,hA⟩:=hN.at ab;obtain ⟨nd,hy⟩:∃ y,ns[k]?=some y:=⟨_,aK fL⟩;obtain ⟨P,V,H,U,aV⟩:=hA k nd hy;have hP:=aV.c0;have Hk:=aV.r0;obtain ⟨pp,pc,pn,rfl,Bx⟩:=Hk.gD;have TM:=fI.2 nd (aF hy);have HY:=ae hy;have XK:=ae Hk;have Kg:=ae TM;have HLL:=ae hL;go_wp2_with fail;refine (mL pp q pc d pn m nd.path l Bx em _ XK HLL Kg fI.1).mono ?_;rintro r w2 ⟨rfl,cX⟩;by_cases jR:nd.path=l;{
 rw [show decide (nd.path=l)=true by simp [jR]];have hF:Hid (fE ns l=some nd):=by
  show _=_;have e1:ns=ns.take k++nd::ns.drop (k+1):=by rw [List.im (aa HY),List.take_append_drop]
  rw [e1,fE,List.find?_append,show (ns.take k).find? (fun nd=>decide (nd.path=l))=none from aa jS];simp [jR]
 have b2:=ah BB cX;go_wp2;go_ret;exact ⟨.inl ⟨k,nd,rfl,bj,HY,hF⟩,b2⟩};{
 rw [show decide (nd.path=l)=false by simp [jR]];have Mf:Hid (fE (ns.take (k+1)) l=none):=by show _=_;rw [List.take_add_one,aa HY,fE,List.find?_append,show (ns.take k).find? (fun nd=>decide (nd.path=l))=none from aa jS];simp [jR]
 have b2:=ah aR cX;go_wp2;go_roundw
 case rel=>exact ⟨k+1,ab,by go_num,Mf,b2⟩
 exact dC}};{
 have da:=dy k n;have hF:Hid (fE ns l=none):=by show _=_;have:=aa jS;rwa [List.take_of_length_le (by rw [aa en];omega)] at this
 go_wp2;go_ret;exact ⟨.inr ⟨rfl,hF⟩,BB⟩})
def dw (ns:List aD) (l:List Int):Bool:=if l=[47] then true else match fE ns l with | some nd=>nd.owner==0 | none=>false
theorem kY (e g x t:Int) (p q:Option Addr) (c n d m:Nat) (S:Value) (ns:List aD) (l:List Int) (en:Hid (ns.length=n)) (em:Hid (l.length=m)) (w:World) (h:kJ w (.S p n c) ns) (hl:Rd w (.S q m d) l) (hn:n<=1048576) (hm:m<=2097152)
  (fI:Hid (bM l/\∀ nd∈ns,bM nd.path)) (B:Bool) (eB:Hid (dw ns l=B)) :
  Calls prog 87 #[cY e g x t S (.S p n c),.S q m d] w fun r w'=>r=.returned (.bool B)/\Bw w w':=by
 have HR:=ae fun (w':World) (hb:Bw w w')=>ag (h.below hb) (hl.below hb);clear h hl;obtain ⟨W,hW⟩:=ax (w.alloc (.cells #[.U e,.U g,.U x,.I t,S,.S p n c] 27));have bW:=ju hW;have sW:W.heap.size=w.heap.size+1:=by rw [hW];simp
 have Pb:lX W w.heap.size e g x t S (.S p n c):=by rw [hW];simp [lX]
 have hcv:=Lib.run_convert_bytes_const (P:=prog) W 22 5 #[.int .u8 47] 1 1 underlying22 underlying5;simp only [show (#[Value.int .u8 47]:Array Value).size=1 from rfl] at hcv;obtain ⟨X,hX⟩:=ax (W.alloc (.cells #[.int .u8 47] 5 (1,1+1)));have rX:Rd X (.S (some ⟨w.heap.size+1,0,none⟩) 1 1) [47]:=by
  rw [hX,<-sW];refine ⟨_,_,rfl,.inr ⟨W.heap.size,0,rfl,fun i hi=>?_⟩⟩
  match i,hi with
  | 0,_=>(rw [Nat.zero_add,tT];rfl)
 have bX:Bw w X:=by rw [hX];exact bW.alloc ab _
 have iX:lX X w.heap.size e g x t S (.S p n c):=Pb.below (by rw [hX];exact aJ.alloc aA _);rw [<-hX,sW,hW] at hcv;clear sW Pb bW hX hW;have RX:=ae rX;have BX:=ae bX;have IX:=ae iX;clear rX bX iX;go_enter func87,ntmps87;go_wp2_with fail;refine (mL q _ d 1 m 1 l [47] em cw _ (aa HR _ (aa BX)).2 (aa RX) fI.1 (by intro x hx;simp at hx;omega)).mono ?_;rintro r w2 ⟨rfl,cX⟩;have b2:=ah BX cX;obtain ⟨j0,j1,j2,j3,j4,j5⟩:=IX.below cX;clear hcv cX;by_cases kL:l=[47];{
 rw [show decide (l=[47])=true by simp [kL]];have eT:B=true:=by rw [<-aa eB,dw,if_pos kL]
 subst eT;clear kL;go_wp2;go_ret;exact ⟨rfl,b2⟩};{
 rw [show decide (l=[47])=false by simp [kL]];have hB:(match fE ns l with | some nd=>nd.owner==0 | none=>false)=B:=by rw [<-aa eB,dw,if_neg kL]
 have HB:=ae hB;clear hB kL;go_wp2_with fail;refine (mO e g x t p q c n d m S ns l en em _ (aa HR _ b2).1 (aa HR _ b2).2 hn hm fI).mono ?_;rintro r w3 ⟨hr,de⟩;have b3:=ah b2 de;have k5:=af j5 de;clear j0 j1 j2 j3 j4 j5 de;rcases hr with ⟨k,nd,rfl,hk,hy,hF⟩ | ⟨rfl,hF⟩;{
 rw [hF] at HB;have fL:k<ns.length:=by rw [aa en];exact hk
 obtain ⟨b,o,rfl,hA⟩:=(aa HR _ b3).1.at ab;obtain ⟨P,V,H,U,aV⟩:=hA k nd hy;have hO:=aV.c2;have Ms:=aT k n;have GI:=dE 0 k;clear hA aV fL hy hF;cases B with
 | true=>
  have ho:nd.owner=0:=by have:=aa HB;simpa using this
  rw [ho] at hO;clear ho;go_wp2;go_ret;exact ⟨rfl,b3⟩
 | false=>
  have ho:(nd.owner==0)=false:=aa HB;go_wp2;go_ret;exact ⟨rfl,b3⟩};{rw [hF] at HB;have eF:B=false:=HB.symm;subst eF;clear hF;go_wp2;go_ret;exact ⟨rfl,b3⟩}}
end Go.Proofs.YtcfcafeciggjeaaGreatDoor
