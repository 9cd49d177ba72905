import Derived.Test.YtcfcafeciggjeaaGreatDoorAP3
namespace Go.Proofs.YtcfcafeciggjeaaGreatDoor
set_option maxHeartbeats 12800000
set_option linter.all false
set_option maxRecDepth 100000
open Go.ChangeShapes Go.WideShapes Go.ChangeAt Go.RowKit Go.Deep Go.Proofs.Tryz
variable {B c c2 cp cv g n2 np nv ob t t':Nat} {P V cd l:List Int} {p p2 pp pq:Option Addr} {v:Value} {vs:List Value} {x:Int}
structure Gv where
 K:Int
 S:Int
 F:Int
 E:Int
 G:Int
 P:List Int
 V:List Int
 t:Nat
structure Cj (O:Gv):Prop where
 s:0<=O.S/\O.S<18446744073709551616
 e:0<=O.E/\O.E<18446744073709551616
 g:0<=O.G/\O.G<18446744073709551616
 p:bM O.P
 v:bM O.V
 pl:O.P.length<=20
 vl:O.V.length<=50
def DOp (cd:List Int) (t:Nat) (O:Gv):Prop:=
 ∀ (g:Nat) (p:Option Addr) (c:Nat) (w:World),lu w g p cd c t->Calls prog 31 #[.pointer (some ⟨g,0,none⟩)] w fun r w'=>∃ pp cp pq cv,r=.returned (lW O.K O.S (.S pp O.P.length cp) O.F (.S pq O.V.length cv) O.E O.G)/\TB w' (.S pp O.P.length cp) O.P/\TB w' (.S pq O.V.length cv) O.V/\lu w' g p cd c O.t/\Dr g w w'
def QO:List Int:=[1,4,4,4,8,8,8,9,11,7,5,6,10,12,13,3,2,11,7,4]
def hpB (K:Int):Bool:=!(K==1)&&(!(K==2)&&(!(K==3)&&!(K==12)))
theorem VG (K:Int) (w:World):Calls prog 79 #[.I K] w fun r w'=>r=.returned (.bool (hpB K))/\w'=w:=by
 have a1:(K != 1)=!(K==1):=rfl;have a2:(K != 2)=!(K==2):=rfl;have a3:(K != 3)=!(K==3):=rfl;have a4:(K != 12)=!(K==12):=rfl;unfold hpB;cases h1:K==1<;>cases h2:K==2<;>cases h3:K==3<;>cases h4:K==12<;>rw [h1] at a1<;>rw [h2] at a2<;>rw [h3] at a3<;>rw [h4] at a4<;>clear h1 h2 h3 h4
 all_goals (go_enter func79,ntmps79;go_wp2;go_ret;exact ⟨rfl,rfl⟩)
def qE (w:World) (b:Nat) (v0 v1 v2 v3 v4 v5 v6:Value):World:=((((((w.setCell ⟨b,0,none⟩ v0).setCell ⟨b,1,none⟩ v1).setCell ⟨b,2,none⟩ v2).setCell ⟨b,3,none⟩ v3).setCell ⟨b,4,none⟩ v4).setCell ⟨b,5,none⟩ v5).setCell ⟨b,6,none⟩ v6
theorem rK {w:World} {b:Nat} {ty:TypeId} {o0 o1 o2 o3 o4 o5 o6:Value} (h:∃ cur,w.heap[b]?=some (.cells cur ty)) (hc:aq w b [o0,o1,o2,o3,o4,o5,o6]) (v0 v1 v2 v3 v4 v5 v6:Value):Fr [ty] w (qE w b v0 v1 v2 v3 v4 v5 v6)/\Below b w (qE w b v0 v1 v2 v3 v4 v5 v6)/\aq (qE w b v0 v1 v2 v3 v4 v5 v6) b [v0,v1,v2,v3,v4,v5,v6]:=by
 have a0:=bf (j:=0) (u:=v0) h;have a1:=bf (j:=1) (u:=v1) a0.1;have a2:=bf (j:=2) (u:=v2) a1.1;have a3:=bf (j:=3) (u:=v3) a2.1;have a4:=bf (j:=4) (u:=v4) a3.1;have a5:=bf (j:=5) (u:=v5) a4.1;have a6:=bf (j:=6) (u:=v6) a5.1;have e:=((((((hc.dI 0 aU v0).dI 1 aU v1).dI 2 aU v2).dI 3 aU v3).dI 4 aU v4).dI 5 aU v5).dI 6 aU v6;exact ⟨(((((a0.2.trans a1.2).trans a2.2).trans a3.2).trans a4.2).trans a5.2).trans a6.2,(((((((Below.refl b w).setCell (p:=⟨b,0,none⟩) aA _).setCell (p:=⟨b,1,none⟩) aA _).setCell (p:=⟨b,2,none⟩) aA _).setCell (p:=⟨b,3,none⟩) aA _).setCell (p:=⟨b,4,none⟩) aA _).setCell (p:=⟨b,5,none⟩) aA _).setCell (p:=⟨b,6,none⟩) aA _,e⟩
structure OX (w0 w:World) (ob g:Nat) (p:Option Addr) (cd:List Int) (c t:Nat) (vs:List Value):Prop where
 box:aq w ob vs
 nJ:∃ cur,w.heap[ob]?=some (.cells cur 29)
 res:aq w w0.heap.size [.I 0,.U 0,.S none 0 0,.I 0,.S none 0 0,.U 0,.U 0]
 rty:∃ cur,w.heap[w0.heap.size]?=some (.cells cur 29)
 jP:lu w g p cd c t
 dr:Dr g w0 w
 lo:w0.heap.size<ob
 gl:g<w0.heap.size
theorem OX.obl {w0 w:World} (h:OX w0 w ob g p cd c t vs):ob<w.heap.size:=by
 obtain ⟨cur,hc⟩:=h.nJ;exact gN hc
theorem OX.draw {w0 w w1:World} (h:OX w0 w ob g p cd c t vs) (hd:lu w1 g p cd c t') (d:Dr g w w1):OX w0 w1 ob g p cd c t' vs:=by
 have h1:=h.obl;have h2:=h.lo;have h3:=h.gl;have hk:=d.2.2 ob ab h1;exact ⟨h.box.aS hk,h.nJ.imp fun cur hc=>hk.trans hc,h.res.aS (d.2.2 _ ab ab),h.rty.imp fun cur hc=>(d.2.2 _ ab ab).trans hc,hd,h.dr.trans d,h2,h3⟩
theorem OX.grow {w0 w w1:World} {r:Option Nat} (h:OX w0 w ob g p cd c t vs) (hg:w.grownBy w1 r) (hr:∀ b,r=some b->w0.heap.size<b/\b≠ob):OX w0 w1 ob g p cd c t vs:=by
 have h1:=h.obl;have h2:=h.lo;have h3:=h.gl;have hk:∀ b,b<=w0.heap.size\/b=ob->w1.heap[b]?=w.heap[b]?:=fun b hb=>hg.block b ab (fun e=>by have:=hr b e.symm;omega)
 exact ⟨h.box.aS (hk _ (.inr rfl)),h.nJ.imp fun cur hc=>(hk _ (.inr rfl)).trans hc,h.res.aS (hk _ (.inl aA)),h.rty.imp fun cur hc=>(hk _ (.inl aA)).trans hc,h.jP.keep fun b hb=>hk b (.inl ab),h.dr.add ⟨hg.os,hg.tape,hg.output,hg.size,fun b hb=>hk b (.inl ab)⟩ h3,h2,h3⟩
theorem OX.set {w0 w:World} (h:OX w0 w ob g p cd c t vs) (j:Nat) (hj:j<vs.length) (u:Value):OX w0 (w.setCell ⟨ob,j,none⟩ u) ob g p cd c t (vs.set j u)/\Fr [29] w (w.setCell ⟨ob,j,none⟩ u):=by
 have h2:=h.lo;have h3:=h.gl;have ts:=bf (j:=j) (u:=u) h.nJ;have hb:Below ob w (w.setCell ⟨ob,j,none⟩ u):=aJ.setCell (p:=⟨ob,j,none⟩) aA _;exact ⟨⟨h.box.dI j hj u,ts.1,h.res.rj (a:=⟨ob,j,none⟩) (by show w0.heap.size≠ob;omega) u,h.rty.imp fun cur hc=>(dF _ _ _ _ (by show w0.heap.size≠ob;omega)).trans hc,h.jP.low hb ab,h.dr.add (hb.mono ab) h3,h2,h3⟩,ts.2⟩
def PA (B:Nat) (w:World) (v:Value) (l:List Int):Prop:=(v=.S none 0 0/\l=[])\/GC B w v l
theorem PA.fr {T:List TypeId} {w w':World} (h:PA B w v l) (hf:Fr T w w') (ht:5∉T:=by decide):PA B w' v l:=h.imp (fun h=>h) (fun h=>h.fr hf ht)
theorem PA.tb {w:World} (h:PA B w v l):TB w v l:=by
 rcases h with ⟨rfl,rfl⟩ | h;{exact TB.nil w};{exact h.tb}
def VA (x:Int) (w:World) (v:Value) (l:List Int):Prop:=TB w v l/\(250<x->v=.S none 0 0/\l=[])
theorem VA.fr {T:List TypeId} {w w':World} (h:VA x w v l) (hf:Fr T w w') (ht:5∉T:=by decide):VA x w' v l:=⟨h.1.fr hf ht,h.2⟩
def OZ (x:Int) (w0 w:World) (ob g:Nat) (p:Option Addr) (cd:List Int) (c t:Nat) (K S F E G:Int) (pp:Option Addr) (cp:Nat) (P:List Int) (np:Nat) (pq:Option Addr) (cv:Nat) (V:List Int) (nv:Nat):Prop:=
 OX w0 w ob g p cd c t [.I K,.U S,.S pp np cp,.I F,.S pq nv cv,.U E,.U G]/\PA (w0.heap.size+1) w (.S pp np cp) P/\VA x w (.S pq nv cv) V
theorem OZ.draw {w0 w w1:World} {K S F E G:Int} (h:OZ x w0 w ob g p cd c t K S F E G pp cp P np pq cv V nv) (hd:lu w1 g p cd c t') (d:Dr g w w1):OZ x w0 w1 ob g p cd c t' K S F E G pp cp P np pq cv V nv:=
 ⟨h.1.draw hd d,h.2.1.fr d.1,h.2.2.fr d.1⟩
theorem OZ.below {w0 w w1:World} {K S F E G:Int} (h:OZ x w0 w ob g p cd c t K S F E G pp cp P np pq cv V nv) (b:Bw w w1):OZ x w0 w1 ob g p cd c t K S F E G pp cp P np pq cv V nv:=
 h.draw (h.1.jP.low b h.1.jP.lt) (Dr.below b h.1.jP.lt)
theorem OZ.cells {w0 w:World} {K S F E G:Int} (h:OZ x w0 w ob g p cd c t K S F E G pp cp P np pq cv V nv) :
  w.cell? ⟨ob,0,none⟩=some (.I K)/\w.cell? ⟨ob,1,none⟩=some (.U S)/\w.cell? ⟨ob,2,none⟩=some (.S pp np cp)/\w.cell? ⟨ob,3,none⟩=some (.I F)/\w.cell? ⟨ob,4,none⟩=some (.S pq nv cv)/\w.cell? ⟨ob,5,none⟩=some (.U E)/\w.cell? ⟨ob,6,none⟩=some (.U G)/\∀ o,w.frozen? ⟨ob,o,none⟩=false:=
 ⟨h.1.box.1 0 _ rfl,h.1.box.1 1 _ rfl,h.1.box.1 2 _ rfl,h.1.box.1 3 _ rfl,h.1.box.1 4 _ rfl,h.1.box.1 5 _ rfl,h.1.box.1 6 _ rfl,h.1.box.2⟩
theorem OZ.Za {w0 w:World} {K S F E G:Int} (h:OZ x w0 w ob g p cd c t K S F E G pp cp P np pq cv V nv) (y:Int):OZ x w0 (w.setCell ⟨ob,0,none⟩ (.I y)) ob g p cd c t y S F E G pp cp P np pq cv V nv:=⟨(h.1.set 0 (by simp) _).1,h.2.1.fr (h.1.set 0 (by simp) _).2,h.2.2.fr (h.1.set 0 (by simp) _).2⟩
theorem OZ.KL {w0 w:World} {K S F E G:Int} (h:OZ x w0 w ob g p cd c t K S F E G pp cp P np pq cv V nv) (y:Int):OZ x w0 (w.setCell ⟨ob,1,none⟩ (.U y)) ob g p cd c t K y F E G pp cp P np pq cv V nv:=⟨(h.1.set 1 (by simp) _).1,h.2.1.fr (h.1.set 1 (by simp) _).2,h.2.2.fr (h.1.set 1 (by simp) _).2⟩
theorem OZ.Qe {w0 w:World} {K S F E G:Int} (h:OZ x w0 w ob g p cd c t K S F E G pp cp P np pq cv V nv) (y:Int):OZ x w0 (w.setCell ⟨ob,3,none⟩ (.I y)) ob g p cd c t K S y E G pp cp P np pq cv V nv:=⟨(h.1.set 3 (by simp) _).1,h.2.1.fr (h.1.set 3 (by simp) _).2,h.2.2.fr (h.1.set 3 (by simp) _).2⟩
theorem OZ.aE2 {w0 w:World} {K S F E G:Int} (h:OZ x w0 w ob g p cd c t K S F E G pp cp P np pq cv V nv) (y:Int):OZ x w0 (w.setCell ⟨ob,5,none⟩ (.U y)) ob g p cd c t K S F y G pp cp P np pq cv V nv:=⟨(h.1.set 5 (by simp) _).1,h.2.1.fr (h.1.set 5 (by simp) _).2,h.2.2.fr (h.1.set 5 (by simp) _).2⟩
theorem OZ.Zb {w0 w:World} {K S F E G:Int} (h:OZ x w0 w ob g p cd c t K S F E G pp cp P np pq cv V nv) (y:Int):OZ x w0 (w.setCell ⟨ob,6,none⟩ (.U y)) ob g p cd c t K S F E y pp cp P np pq cv V nv:=⟨(h.1.set 6 (by simp) _).1,h.2.1.fr (h.1.set 6 (by simp) _).2,h.2.2.fr (h.1.set 6 (by simp) _).2⟩
theorem OZ.aE1 {w0 w:World} {K S F E G:Int} (h:OZ x w0 w ob g p cd c t K S F E G pp cp P np pq cv V nv) {P2:List Int} (h2:PA (w0.heap.size+1) w (.S p2 n2 c2) P2):OZ x w0 (w.setCell ⟨ob,2,none⟩ (.S p2 n2 c2)) ob g p cd c t K S F E G p2 c2 P2 n2 pq cv V nv:=⟨(h.1.set 2 (by simp) _).1,h2.fr (h.1.set 2 (by simp) _).2,h.2.2.fr (h.1.set 2 (by simp) _).2⟩
theorem OZ.UY {w0 w:World} {K S F E G:Int} (h:OZ x w0 w ob g p cd c t K S F E G pp cp P np pq cv V nv) {V2:List Int} (h2:VA x w (.S p2 n2 c2) V2):OZ x w0 (w.setCell ⟨ob,4,none⟩ (.S p2 n2 c2)) ob g p cd c t K S F E G pp cp P np p2 c2 V2 n2:=⟨(h.1.set 4 (by simp) _).1,h.2.1.fr (h.1.set 4 (by simp) _).2,h2.fr (h.1.set 4 (by simp) _).2⟩
theorem Sw (w:World) (x y:Int) (g2:Nat) (c0:w.cell? ⟨g2,0,none⟩=some (.int .u8 x)) (c1:w.cell? ⟨g2,1,none⟩=some (.int .u8 y)) :
  ∃ p' c' w',(Builtin.append_ #[22,22] 22 #[.S none 0 0,.S (some ⟨g2,0,none⟩) 2 2]).run prog w=.ok (.S p' (([]:List Int).length+2) c') w'/\TB w' (.S p' (([]:List Int).length+2) c') ([]++[x,y])/\w.grownBy w' (Value.S none 0 0).ownBlock:=by
 obtain ⟨i,hi,hz,hs,hb⟩:=info_parts Tryz.infoByte;obtain ⟨v',w',hr,h2,h3,-⟩:=run_append_own (P:=prog) w w.heap.size 22 22 5 i (.int .u8 0) 1 1 underlying22 hi hz hs hb rfl bl (.S none 0 0) 0 [] (World.ownsRow_nil w _ _ 1) ⟨g2,0,none⟩ 2 2 [.int .u8 x,.int .u8 y] rfl (fun j u hu=>by rw [Addr.add_lit];rcases j with _ | _ | j;{simp at hu;subst hu;exact c0};{simp at hu;subst hu;exact c1};{simp at hu}) (fun u hu=>by simp at hu;rcases hu with rfl | rfl<;>rfl) jC ab aA
 have ho:Own w.heap.size w' v' [x,y]:=h2;obtain ⟨p',c',e⟩:=ho.tb.gD;subst e;exact ⟨p',c',w',hr,ho.tb,h3⟩
def KG (c:Int) (O:Gv):Gv:=if c=0 then { O with K:=0 } else if c=1 then { O with K:=14 } else if c=2 then { O with F:=3 } else if c=3 then { O with S:=(O.S+9) % 18446744073709551616 } else if c=4 then { O with V:=O.V++[120] } else if c=5 then { O with G:=(O.G+1) % 18446744073709551616 } else if c=6 then { O with P:=O.P++[47,112] } else { O with F:=-1 }
theorem vu (n:Nat) (h:0<=x/\x<256):bM (List.replicate n x):=fun z hz=>by rw [List.eq_of_mem_replicate hz];exact h
theorem BM {m:List Int} (h:bM l) (h2:bM m):bM (l++m):=fun z hz=>(List.mem_append.1 hz).elim (h z) (h2 z)
theorem KF {O:Gv} (h:Cj O) (hv:O.V.length<=49) (hp:O.P.length<=18) (c:Int) (t:Nat):Cj { KG c O with t:=t }:=by
 unfold KG
 repeat' split
 all_goals refine ⟨?_,?_,?_,?_,?_,?_,?_⟩
 all_goals first | exact h.s | exact h.e | exact h.g | exact h.p | exact h.v | exact h.pl | exact h.vl | skip
 {show 0<=(O.S+9) % 18446744073709551616/\(O.S+9) % 18446744073709551616<18446744073709551616;omega};{exact BM h.v fun z hz=>by simp at hz;omega}
 {show (O.V++[120]).length<=50;simp;omega};{show 0<=(O.G+1) % 18446744073709551616/\(O.G+1) % 18446744073709551616<18446744073709551616;omega};{exact BM h.p fun z hz=>by simp at hz;omega}
 {show (O.P++[47,112]).length<=20;simp;omega}
theorem Vt {m:Nat} (h:m<20):(1<=QO.getD m 0/\QO.getD m 0<=13)/\(11<=m->m<=15->QO.getD m 0≠4/\QO.getD m 0≠7):=by
 have:∀ m,m<20->(1<=QO.getD m 0/\QO.getD m 0<=13)/\(11<=m->m<=15->QO.getD m 0≠4/\QO.getD m 0≠7):=by decide
 exact this m h
theorem xK (cd:List Int) (t:Nat) (hb:bM cd) (hl:cd.length<=500):∃ O,Cj O/\DOp cd t O:=by
 have rg:=ae (cG cd hb);obtain ⟨x,ex⟩:=aL (cd.getD t 0);have hx:0<=x/\x<256:=by rw [<-aa ex];exact aa rg t
 obtain ⟨m,hm,em⟩:∃ m:Nat,m<20/\x % 20=m:=⟨(x % 20).toNat,ab,ab⟩;obtain ⟨K,eK⟩:=aL (QO.getD m 0);have yh:Hid (250<x->K≠4/\K≠7):=fun h=>by rw [<-aa eK];exact (Vt hm).2 ab ab
 obtain ⟨S1,MM⟩:∃ S1,Hid ((if DB K=true then Ny (cd.getD (t+1) 0) else 0)=S1):=⟨_,ae rfl⟩;obtain ⟨t1,ht1⟩:∃ t1,Hid ((if DB K=true then t+1+1 else t+1)=t1):=⟨_,ae rfl⟩;obtain ⟨P0,bP0,lP0,dP0⟩:=mU cd t1 hb hl;obtain ⟨P2,hP2⟩:∃ P2,Hid ((if hpB K=true then P0 else [])=P2):=⟨_,ae rfl⟩;obtain ⟨t2,ht2⟩:∃ t2,Hid ((if hpB K=true then t1+1 else t1)=t2):=⟨_,ae rfl⟩;obtain ⟨c3,ec3⟩:=aL (cd.getD t2 0);have Rn:0<=c3/\c3<256:=by rw [<-aa ec3];exact aa rg t2
 obtain ⟨F3,hF3⟩:∃ F3,Hid ((if K=4 then c3 % 4 / 3 else 0)=F3):=⟨_,ae rfl⟩;obtain ⟨n3,en3⟩:∃ n3:Nat,c3 % 5=n3:=⟨(c3 % 5).toNat,ab⟩;obtain ⟨m3,WU⟩:∃ m3:Nat,Hid (250<c3->-213+c3=m3/\m3<=42):=⟨(-213+c3).toNat,fun h=>ab⟩;obtain ⟨V3,Pe⟩:∃ V3:List Int,Hid ((if K=4 then (if 250<c3 then List.replicate m3 119 else List.replicate n3 118) else [])=V3):=⟨_,ae rfl⟩;obtain ⟨t3,ht3⟩:∃ t3,Hid ((if K=4 then t2+1 else t2)=t3):=⟨_,ae rfl⟩;obtain ⟨c4,ec4⟩:=aL (cd.getD t3 0);have DO:0<=c4/\c4<256:=by rw [<-aa ec4];exact aa rg t3
 obtain ⟨n4,en4⟩:∃ n4:Nat,c4 % 6=n4:=⟨(c4 % 6).toNat,ab⟩;obtain ⟨V4,hV4⟩:∃ V4:List Int,Hid ((if K=7 then List.replicate n4 115 else V3)=V4):=⟨_,ae rfl⟩;obtain ⟨t4,ht4⟩:∃ t4,Hid ((if K=7 then t3+1 else t3)=t4):=⟨_,ae rfl⟩;obtain ⟨c5,ec5⟩:=aL (cd.getD t4 0);have Pb:0<=c5/\c5<256:=by rw [<-aa ec5];exact aa rg t4
 obtain ⟨F5,Ys⟩:∃ F5,Hid ((if K=8 then 1+c5 % 2 else F3)=F5):=⟨_,ae rfl⟩;obtain ⟨t5,ht5⟩:∃ t5,Hid ((if K=8 then t4+1 else t4)=t5):=⟨_,ae rfl⟩;obtain ⟨c6,ec6⟩:=aL (cd.getD t5 0);have Pa:0<=c6/\c6<256:=by rw [<-aa ec6];exact aa rg t5
 obtain ⟨d6,ed6⟩:=aL (cd.getD (t5+1) 0);have hd6:0<=d6/\d6<256:=by rw [<-aa ed6];exact aa rg (t5+1)
 obtain ⟨E6,hE6⟩:∃ E6,Hid ((if K=10 then c6 % 4 else 0)=E6):=⟨_,ae rfl⟩;obtain ⟨G6,hG6⟩:∃ G6,Hid ((if K=10 then d6 % 6 else 0)=G6):=⟨_,ae rfl⟩;obtain ⟨t6,ht6⟩:∃ t6,Hid ((if K=10 then t5+1+1 else t5)=t6):=⟨_,ae rfl⟩;obtain ⟨c7,ec7⟩:=aL (cd.getD t6 0);have hc7:0<=c7/\c7<256:=by rw [<-aa ec7];exact aa rg t6
 obtain ⟨k7,ek7⟩:∃ k7:Nat,c7 % 8=k7:=⟨(c7 % 8).toNat,ab⟩;obtain ⟨O,eO⟩:∃ O:Gv,Hid ((if 250<x then { KG k7 ⟨K,S1,F5,E6,G6,P2,V4,t6⟩ with t:=t6+1 } else ⟨K,S1,F5,E6,G6,P2,V4,t6⟩)=O):=⟨_,ae rfl⟩;have hlP:P2.length<=18:=by rw [<-aa hP2];split;exact lP0;simp
 have hbP:bM P2:=by rw [<-aa hP2];split;exact bP0;exact fun z hz=>by simp at hz
 have Ws:bM V3/\V3.length<=42:=by
  rw [<-aa Pe];split;{
 split;{
 rename_i h4
 exact ⟨vu _ ab,by rw [List.length_replicate];exact (aa WU h4).2⟩};{exact ⟨vu _ ab,by rw [List.length_replicate];omega⟩}};{exact ⟨fun z hz=>by simp at hz,aU⟩}
 have Wr:bM V4/\V4.length<=42:=by rw [<-aa hV4];split;{exact ⟨vu _ ab,by rw [List.length_replicate];omega⟩};{exact Ws}
 have hVn:Hid (250<x->V3=[]/\V4=[]):=fun h=>by have h1:=aa yh h;have e3:=aa Pe;have e4:=aa hV4;rw [if_neg h1.1] at e3;rw [if_neg h1.2] at e4;rw [<-e4,<-e3];exact ⟨rfl,rfl⟩
 have hG:Cj ⟨K,S1,F5,E6,G6,P2,V4,t6⟩:=by
  refine ⟨?_,?_,?_,hbP,Wr.1,by show P2.length<=20;omega,by show V4.length<=50;omega⟩;{show 0<=S1/\S1<_;rw [<-aa MM];split;{exact Js (aa rg _)};{omega}};{show 0<=E6/\E6<_;rw [<-aa hE6];split<;>omega}
  {show 0<=G6/\G6<_;rw [<-aa hG6];split<;>omega}
 refine ⟨O,?_,fun g p c w h=>?_⟩;{rw [<-aa eO];split;{exact KF hG (by show V4.length<=49;omega) hlP _ _};{exact hG}};have bV8:V3.length<=42:=Ws.2;have bp5:V4.length<=42:=Wr.2;clear hG Ws Wr hbP bP0;obtain ⟨W0,dh,b0,z0,C0,T0⟩:=aj w #[.I 0,.U 0,.S none 0 0,.I 0,.S none 0 0,.U 0,.U 0] 29;obtain ⟨W1,iM,b1,z1,C1,T1⟩:=aj W0 #[.I 1,.I 4,.I 4,.I 4,.I 8,.I 8,.I 8,.I 9,.I 11,.I 7,.I 5,.I 6,.I 10,.I 12,.I 13,.I 3,.I 2,.I 11,.I 7,.I 4] 3;have mn:=h.lt;have iV:lu W1 g p cd c t:=(h.low b0 h.lt).low b1 ab;have d01:Dr g w W1:=(Dr.below b0 mn).trans (Dr.below b1 ab);rw [z0] at C1 T1 z1;have nw:W1.cell? ⟨w.heap.size+1,m,none⟩=some (.I K):=by
  rw [cell_of_row _ _ _ _ _ _ T1,<-aa eK];have:m=0\/m=1\/m=2\/m=3\/m=4\/m=5\/m=6\/m=7\/m=8\/m=9\/m=10\/m=11\/m=12\/m=13\/m=14\/m=15\/m=16\/m=17\/m=18\/m=19:=by omega
  rcases this with rfl | rfl | rfl | rfl | rfl | rfl | rfl | rfl | rfl | rfl | rfl | rfl | rfl | rfl | rfl | rfl | rfl | rfl | rfl | rfl<;>rfl
 have C0':=C0.below ab b1;have T0':=(b1.block w.heap.size ab).trans T0;clear b0 b1 C0 T0 C1 T1;go_enter func31,ntmps31;go_wp2_with fail;rw [<-dh]
 try rw [<-iM]
 clear dh iM;refine (fD g p cd c t W1 iV hb hl).mono ?_;rintro r w1 ⟨rfl,h1,d1⟩;rw [aa ex];have zw1:=d1.2.1.size;have hkc:w1.cell? ⟨w.heap.size+1,m,none⟩=some (.I K):=(ai (d1.2.2 (w.heap.size+1) ab ab) _).trans nw;obtain ⟨W2,iL,b2,z2,C2,T2⟩:=aj w1 #[.I K,.U 0,.S none 0 0,.I 0,.S none 0 0,.U 0,.U 0] 29;have XC:OX w W2 w1.heap.size g p cd c (t+1) _:=⟨C2,⟨_,T2⟩,(C0'.aS (d1.2.2 _ ab ab)).below ab b2,⟨_,(b2.block _ ab).trans ((d1.2.2 _ ab ab).trans T0')⟩,h1.low b2 ab,(d01.trans d1).trans (Dr.below b2 ab),ab,mn⟩;have H0:Hid (OZ x w W2 w1.heap.size g p cd c (t+1) K 0 0 0 0 none 0 [] 0 none 0 [] 0):=⟨XC,.inl ⟨rfl,rfl⟩,TB.nil _,fun _=>⟨rfl,rfl⟩⟩;have bS2:(m:Int)<20:=ab;clear XC b2 C2 T2 h1 d1 nw d01 iV C0' T0' h z0 z1 zw1;obtain ⟨ob,eob⟩:=aL w1.heap.size;have Z2:=ae z2;clear z2;go_wp2_with fail;rw [<-iL];clear iL hkc;rw [aa eob] at H0 ⊢;refine (L6 K W2).mono ?_;rintro r w' ⟨rfl,ZR⟩;rw [ZR];clear ZR w'
 go_upto_if 20 with fail
 go_cut [] (fun wc=>Hid (OZ x w wc ob g p cd c t1 K S1 0 0 0 none 0 ([]:List Int) 0 none 0 ([]:List Int) 0))
 case first =>(
 have e1:=aa MM;have e2:=aa ht1;cases hB:DB K;{
 rw [hB,if_neg aU] at e1 e2;subst e1 e2;go_wp2;go_meet
 case rel=>exact H0}
 {
 rw [hB,if_pos rfl] at e1 e2;go_wp2_with fail;refine (Gk g p cd c (t+1) W2 H0.1.jP hb hl).mono ?_;rintro r w3 ⟨rfl,r3,d3⟩;rw [e1];rw [e2] at r3;have H1:=ae (H0.draw r3 d3);obtain ⟨q0,q1,q2,q3,q4,q5,q6,qf⟩:=H1.cells;have H3:=ae (H1.KL S1);clear H1 e1 e2 r3 d3;go_wp2;go_meet
 case rel=>exact H3})
 case rest=>
 have HH:=hcut;clear hcut;obtain ⟨v1,hv⟩:=ax wc;rw [<-hv] at HH ⊢;clear hv wc;have H1:=HH;clear HH H0 Z2 W2;obtain ⟨q0,q1,q2,q3,q4,q5,q6,qf⟩:=H1.cells;go_wp2_with fail;refine (VG K v1).mono ?_;rintro r w' ⟨rfl,ZR⟩;rw [ZR];clear ZR w'
 go_upto_if 26 with fail
 go_cut [] (fun wc=>∃ pp cp,Hid (OZ x w wc ob g p cd c t2 K S1 0 0 0 pp cp P2 P2.length none 0 ([]:List Int) 0))
 case first =>(
 have e1:=aa hP2;have e2:=aa ht2;cases hB:hpB K;{
 rw [hB,if_neg aU] at e1 e2;subst e1 e2;go_wp2;go_meet
 case rel=>exact ⟨none,0,H1⟩}
 {
 rw [hB,if_pos rfl] at e1 e2;subst e1 e2;go_wp2_with fail;refine (dP0 g p c v1 H1.1.jP).mono ?_;rintro r w3 ⟨pp,cp,rfl,cr3,r3,d3⟩;have H2:=ae (H1.draw r3 d3);have cr4:=ae (cr3.mono (B':=w.heap.size+1) (by have:=H1.1.lo;have:=H1.1.obl;omega));clear q0 q1 q2 q3 q4 q5 q6 qf;obtain ⟨q0,q1,q2,q3,q4,q5,q6,qf⟩:=H2.cells;have H3:=ae (H2.aE1 (.inr cr4));clear H2 r3 d3 cr3 cr4;go_wp2;go_meet
 case rel=>exact ⟨_,_,H3⟩})
 case rest=>
 obtain ⟨pp,cp,hcut⟩:=hcut;have HH:=hcut;clear hcut;obtain ⟨v2,hv⟩:=ax wc;rw [<-hv] at HH ⊢;clear hv wc;have H2:=HH;clear HH H1 q0 q1 q2 q3 q4 q5 q6 qf v1;obtain ⟨q0,q1,q2,q3,q4,q5,q6,qf⟩:=H2.cells
 go_upto_if 32 with fail
 go_cut [] (fun wc=>∃ pq cv,Hid (OZ x w wc ob g p cd c t3 K S1 F3 0 0 pp cp P2 P2.length pq cv V3 V3.length))
 case first =>(
 have e1:=aa hF3;have e2:=aa Pe;have e3:=aa ht3;by_cases h4:K=4;{
 have Rc:(K==4)=true:=by simp [h4]
 rw [if_pos h4] at e1 e2 e3;have LM:Hid (250<x->False):=fun h=>(aa yh h).1 h4;subst e1 e3;have E2:=ae e2;clear e2;go_wp2_with fail;refine (fD g p cd c t2 v2 H2.1.jP hb hl).mono ?_;rintro r w3 ⟨rfl,r3,d3⟩;rw [aa ec3];have H3:=ae (H2.draw r3 d3);clear q0 q1 q2 q3 q4 q5 q6 qf;obtain ⟨q0,q1,q2,q3,q4,q5,q6,qf⟩:=H3.cells;obtain ⟨X,hX⟩:=ax (w3.setCell ⟨ob,3,none⟩ (.I (c3 % 4 / 3)));have H4:=ae (H3.Qe (c3 % 4 / 3));rw [<-hX] at H4;clear r3 d3;go_wp2_with fail;rw [<-hX];clear hX H3 q0 q1 q2 q3 q4 q5 q6 qf;refine (jl 118 n3 X ab).mono ?_;rintro r w4 ⟨p4,k4,rfl,o4,b4⟩;have H5:=ae (H4.below b4);obtain ⟨q0,q1,q2,q3,q4,q5,q6,qf⟩:=H5.cells;have o5:=ae o4.tb;clear o4 b4;obtain ⟨Y,hY⟩:=ax (w4.setCell ⟨ob,4,none⟩ (.S p4 n3 k4));have H6:=ae (H5.UY (V2:=List.replicate n3 118) ⟨o5,fun h=>(aa LM h).elim⟩);rw [<-hY] at H6;by_cases hc:250<c3;{
 have e4:=aa E2;rw [if_pos hc] at e4;obtain ⟨em4,hm4⟩:=aa WU hc;go_wp2_with fail;rw [<-hY];clear hY H5 q0 q1 q2 q3 q4 q5 q6 qf;refine (jl 119 m3 Y ab).mono ?_;rintro r w5 ⟨p5,k5,rfl,o5',b5⟩;have H7:=ae (H6.below b5);obtain ⟨q0,q1,q2,q3,q4,q5,q6,qf⟩:=H7.cells;have o6:=ae o5'.tb;clear o5' b5;have H8:=ae (H7.UY (V2:=List.replicate m3 119) ⟨o6,fun h=>(aa LM h).elim⟩);clear H7 em4;go_wp2;go_meet
 case rel =>(
 subst e4;rw [List.length_replicate];exact ⟨_,_,H8⟩)}
 {
 have e4:=aa E2;rw [if_neg hc] at e4;go_wp2;rw [<-hY];go_meet
 case rel =>(
 subst e4;rw [List.length_replicate];exact ⟨_,_,H6⟩)}}
 {
 have Rc:(K==4)=false:=by simp [h4]
 rw [if_neg h4] at e1 e2 e3;subst e1 e2 e3;go_wp2;go_meet
 case rel=>exact ⟨_,_,H2⟩})
 case rest=>
 obtain ⟨pq3,cv3,hcut⟩:=hcut;have HH:=hcut;clear hcut;obtain ⟨v3,hv⟩:=ax wc;rw [<-hv] at HH ⊢;clear hv wc;have H3:=HH;clear HH H2 q0 q1 q2 q3 q4 q5 q6 qf v2;obtain ⟨q0,q1,q2,q3,q4,q5,q6,qf⟩:=H3.cells
 go_upto_if 51 with fail
 go_cut [] (fun wc=>∃ pq cv,Hid (OZ x w wc ob g p cd c t4 K S1 F3 0 0 pp cp P2 P2.length pq cv V4 V4.length))
 case first =>(
 have e2:=aa hV4;have e3:=aa ht4;by_cases h4:K=7;{
 have Rc:(K==7)=true:=by simp [h4]
 rw [if_pos h4] at e2 e3;have LM:Hid (250<x->False):=fun h=>(aa yh h).2 h4;subst e3;have E2:=ae e2;clear e2;go_wp2_with fail;refine (fD g p cd c t3 v3 H3.1.jP hb hl).mono ?_;rintro r w3 ⟨rfl,r3,d3⟩;rw [aa ec4];have H4:=ae (H3.draw r3 d3);clear r3 d3;go_wp2_with fail;refine (jl 115 n4 w3 ab).mono ?_;rintro r w4 ⟨p4,k4,rfl,o4,b4⟩;have H5:=ae (H4.below b4);clear q0 q1 q2 q3 q4 q5 q6 qf;obtain ⟨q0,q1,q2,q3,q4,q5,q6,qf⟩:=H5.cells;have o5:=ae o4.tb;clear o4 b4;have H6:=ae (H5.UY (V2:=List.replicate n4 115) ⟨o5,fun h=>(aa LM h).elim⟩);go_wp2;go_meet
 case rel =>(
 have e4:=aa E2;subst e4;rw [List.length_replicate];exact ⟨_,_,H6⟩)}
 {
 have Rc:(K==7)=false:=by simp [h4]
 rw [if_neg h4] at e2 e3;subst e2 e3;go_wp2;go_meet
 case rel=>exact ⟨_,_,H3⟩})
 case rest=>
 obtain ⟨pq,cv,hcut⟩:=hcut;have HH:=hcut;clear hcut;obtain ⟨v4,hv⟩:=ax wc;rw [<-hv] at HH ⊢;clear hv wc;have H4:=HH;clear HH H3 q0 q1 q2 q3 q4 q5 q6 qf v3;obtain ⟨q0,q1,q2,q3,q4,q5,q6,qf⟩:=H4.cells
 go_upto_if 60 with fail
 go_cut [] (fun wc=>Hid (OZ x w wc ob g p cd c t5 K S1 F5 0 0 pp cp P2 P2.length pq cv V4 V4.length))
 case first =>(
 have e2:=aa Ys;have e3:=aa ht5;by_cases h4:K=8;{
 have Rc:(K==8)=true:=by simp [h4]
 rw [if_pos h4] at e2 e3;subst e2 e3;go_wp2_with fail;refine (fD g p cd c t4 v4 H4.1.jP hb hl).mono ?_;rintro r w3 ⟨rfl,r3,d3⟩;rw [aa ec5];have H5:=ae (H4.draw r3 d3);clear r3 d3 q0 q1 q2 q3 q4 q5 q6 qf;obtain ⟨q0,q1,q2,q3,q4,q5,q6,qf⟩:=H5.cells;have H6:=ae (H5.Qe (1+c5 % 2));go_wp2;go_meet
 case rel=>exact H6}
 {
 have Rc:(K==8)=false:=by simp [h4]
 rw [if_neg h4] at e2 e3;subst e2 e3;go_wp2;go_meet
 case rel=>exact H4})
 case rest=>
 have HH:=hcut;clear hcut;obtain ⟨v5,hv⟩:=ax wc;rw [<-hv] at HH ⊢;clear hv wc;have H5:=HH;clear HH H4 q0 q1 q2 q3 q4 q5 q6 qf v4;obtain ⟨q0,q1,q2,q3,q4,q5,q6,qf⟩:=H5.cells
 go_upto_if 68 with fail
 go_cut [] (fun wc=>Hid (OZ x w wc ob g p cd c t6 K S1 F5 E6 G6 pp cp P2 P2.length pq cv V4 V4.length))
 case first =>(
 have e2:=aa hE6;have e1:=aa hG6;have e3:=aa ht6;by_cases h4:K=10;{
 have Rc:(K==10)=true:=by simp [h4]
 rw [if_pos h4] at e1 e2 e3;subst e1 e2 e3;go_wp2_with fail;refine (fD g p cd c t5 v5 H5.1.jP hb hl).mono ?_;rintro r w3 ⟨rfl,r3,d3⟩;rw [aa ec6];have H6:=ae (H5.draw r3 d3);clear r3 d3 q0 q1 q2 q3 q4 q5 q6 qf;obtain ⟨q0,q1,q2,q3,q4,q5,q6,qf⟩:=H6.cells;obtain ⟨X,hX⟩:=ax (w3.setCell ⟨ob,5,none⟩ (.U (c6 % 4)));have H7:=ae (H6.aE2 (c6 % 4));rw [<-hX] at H7;go_wp2_with fail;rw [<-hX];clear hX H6 q0 q1 q2 q3 q4 q5 q6 qf;refine (fD g p cd c (t5+1) X H7.1.jP hb hl).mono ?_;rintro r w4 ⟨rfl,r3,d3⟩;rw [aa ed6];have H8:=ae (H7.draw r3 d3);clear r3 d3;obtain ⟨q0,q1,q2,q3,q4,q5,q6,qf⟩:=H8.cells;have H9:=ae (H8.Zb (d6 % 6));go_wp2;go_meet
 case rel=>exact H9}
 {
 have Rc:(K==10)=false:=by simp [h4]
 rw [if_neg h4] at e1 e2 e3;subst e1 e2 e3;go_wp2;go_meet
 case rel=>exact H5})
 case rest=>
 have HH:=hcut;clear hcut;obtain ⟨v6,hv⟩:=ax wc;rw [<-hv] at HH ⊢;clear hv wc;have H6:=HH;clear HH H5 q0 q1 q2 q3 q4 q5 q6 qf v5;obtain ⟨q0,q1,q2,q3,q4,q5,q6,qf⟩:=H6.cells
 go_upto_if 80 with fail
 go_cut [] (fun wc=>∃ pp cp pq cv,Hid (OX w wc ob g p cd c O.t [.I O.K,.U O.S,.S pp O.P.length cp,.I O.F,.S pq O.V.length cv,.U O.E,.U O.G]/\TB wc (.S pp O.P.length cp) O.P/\TB wc (.S pq O.V.length cv) O.V))
 case first =>(
 have eo:=aa eO;by_cases LM:250<x;{
 rw [if_pos LM] at eo;have EO:=ae eo;clear eo;go_wp2_with fail;refine (fD g p cd c t6 v6 H6.1.jP hb hl).mono ?_;rintro r w3 ⟨rfl,r3,d3⟩;rw [aa ec7];have H7:=ae (H6.draw r3 d3);clear r3 d3 q0 q1 q2 q3 q4 q5 q6 qf;obtain ⟨q0,q1,q2,q3,q4,q5,q6,qf⟩:=H7.cells;obtain ⟨LR,ZS⟩:=H7.2.2.2 LM;simp only [Value.slice.injEq] at LR;obtain ⟨rfl,LR,rfl⟩:=LR;have FL:k7=0\/k7=1\/k7=2\/k7=3\/k7=4\/k7=5\/k7=6\/k7=7:=ab;subst ZS;rcases FL with rfl | rfl | rfl | rfl | rfl | rfl | rfl | rfl;{
 have H8:=ae (H7.Za 0);have xX:=aa EO;simp only [KG] at xX;go_wp2;go_meet
 case rel =>(
 rw [<-xX];exact ⟨_,_,_,_,H8.1,H8.2.1.tb,H8.2.2.1⟩)}
 {
 have H8:=ae (H7.Za 14);have xX:=aa EO;simp only [KG] at xX;go_wp2;go_meet
 case rel =>(
 rw [<-xX];exact ⟨_,_,_,_,H8.1,H8.2.1.tb,H8.2.2.1⟩)}
 {
 have H8:=ae (H7.Qe 3);have xX:=aa EO;simp only [KG] at xX;go_wp2;go_meet
 case rel =>(
 rw [<-xX];exact ⟨_,_,_,_,H8.1,H8.2.1.tb,H8.2.2.1⟩)}
 {
 have H8:=ae (H7.KL ((S1+9) % 18446744073709551616));have xX:=aa EO;simp only [KG] at xX;go_wp2;go_meet
 case rel =>(
 rw [<-xX];exact ⟨_,_,_,_,H8.1,H8.2.1.tb,H8.2.2.1⟩)}
 {
 have xX:=aa EO;simp only [KG] at xX;have bA:Bw w3 (w3.alloc (.cells #[.int .u8 120] 5)):=aJ.alloc aA _;have H8:=ae (H7.below bA);go_wp2_with (at_builtin;refine ga rfl _ _ rfl w3.heap.size (.S none 0 0) [] [120] 120 (ae rfl) w3.heap.size rfl rfl (World.ownsRow_nil _ _ _ _) aU aU aU ?_);intro p9 c9 w9 o9 fh;have b9:Below (w3.alloc (.cells #[.int .u8 120] 5)).heap.size (w3.alloc (.cells #[.int .u8 120] 5)) w9:=⟨fh.os,fh.tape,fh.output,fh.size,fun k hk=>fh.block k hk (by simp [Value.ownBlock])⟩;have H9:=ae (H8.below b9);have HA:=ae (H9.1.set 4 aU (.S p9 1 c9));have t9:=ae o9.tb;clear bA b9 fh o9 q0 q1 q2 q3 q4 q5 q6 qf H8;obtain ⟨q0,q1,q2,q3,q4,q5,q6,qf⟩:=H9.cells;go_wp2;go_meet
 case rel =>(
 rw [<-xX];exact ⟨_,_,_,_,HA.1,(H9.2.1.fr HA.2).tb,t9.fr HA.2⟩)}
 {
 have H8:=ae (H7.Zb ((G6+1) % 18446744073709551616));have xX:=aa EO;simp only [KG] at xX;go_wp2;go_meet
 case rel =>(
 rw [<-xX];exact ⟨_,_,_,_,H8.1,H8.2.1.tb,H8.2.2.1⟩)}
 {
 have xX:=aa EO;simp only [KG] at xX;obtain ⟨A,hA,bA,zA,CA,-⟩:=aj w3 #[.int .u8 47,.int .u8 112] 5;have H8:=ae (H7.below bA);obtain ⟨p9,c9,w9,Oa,t9,fh,Mn⟩:∃ p9 c9 w9,(Builtin.append_ #[22,22] 22 #[.S pp P2.length cp,.S (some ⟨w3.heap.size,0,none⟩) 2 2]).run prog A=.ok (.S p9 (P2.length+2) c9) w9/\TB w9 (.S p9 (P2.length+2) c9) (P2++[47,112])/\A.grownBy w9 (Value.S pp P2.length cp).ownBlock/\∀ b,(Value.S pp P2.length cp).ownBlock=some b->w.heap.size<b/\b≠ob:=by rcases H8.2.1 with ⟨e1,e2⟩ | u9;{obtain ⟨p9,c9,w9,hr,o9,fh⟩:=Sw A 47 112 w3.heap.size (CA.1 0 _ rfl) (CA.1 1 _ rfl);rw [e1,e2];exact ⟨p9,c9,w9,hr,o9,fh,fun b e=>by simp [Value.ownBlock] at e⟩};{obtain ⟨p9,c9,w9,hr,o9,fh⟩:=Xr u9 ab 47 112 w3.heap.size (CA.1 0 _ rfl) (CA.1 1 _ rfl) (by have:=H8.1.lo;have:=H8.1.obl;omega);refine ⟨p9,c9,w9,hr,o9,fh,fun b e=>⟨(u9.lt b e).1,fun e2=>?_⟩⟩;obtain ⟨cur,hc⟩:=H8.1.nJ;rcases u9.tb.2.1 b e with e3 | ⟨cc7,mm,jF⟩;{obtain ⟨g9,C9,e4,-,sw,-⟩:=u9;rw [e4] at e;simp only [Value.ownBlock,Option.some.injEq] at e;subst e;rw [e2,hc] at sw;simp at sw};{rw [e2,hc] at jF;simp at jF}}
 have H9:Hid (OX w w9 ob g p cd c (t6+1) _):=H8.1.grow fh (fun b e=>aa (ae (Mn b e)));have HA:=ae (H9.set 2 aU (.S p9 (P2.length+2) c9));have T9:=ae t9;clear t9 fh Mn q0 q1 q2 q3 q4 q5 q6 qf H8 CA bA zA;have q2:=H7.cells.2.2.1;have k2:=H9.box.1 2 _ rfl;have kf:=H9.box.2;go_wp2_with (at_builtin;rw [<-hA];refine Lib.wpList_append_run _ rfl _ _ _ _ rfl _ _ rfl rfl _ _ Oa ?_);go_wp2;go_meet
 case rel =>(
 rw [<-xX];refine ⟨p9,c9,none,0,?_⟩;have uW:(P2++[47,112]).length=P2.length+2:=aU;show Hid (OX w _ ob g p cd c (t6+1) [.I K,.U S1,.S p9 (P2++[47,112]).length c9,.I F5,.S none 0 0,.U E6,.U G6]/\TB _ (.S p9 (P2++[47,112]).length c9) (P2++[47,112])/\TB _ (.S none 0 0) []);rw [uW];exact ⟨HA.1,T9.fr HA.2,TB.nil _⟩)}
 {
 have H8:=ae (H7.Qe (-1));have xX:=aa EO;simp only [KG] at xX;go_wp2;go_meet
 case rel =>(
 rw [<-xX];exact ⟨_,_,_,_,H8.1,H8.2.1.tb,H8.2.2.1⟩)}}
 {
 rw [if_neg LM] at eo;go_wp2;go_meet
 case rel =>(
 rw [<-eo];exact ⟨_,_,_,_,H6.1,H6.2.1.tb,H6.2.2.1⟩)})
 case rest=>
 obtain ⟨pp9,cp9,pq9,cv9,hcut⟩:=hcut;have HH:=hcut;clear hcut H6 q0 q1 q2 q3 q4 q5 q6 qf;obtain ⟨v7,hv⟩:=ax wc;rw [<-hv] at HH ⊢;clear hv wc v6;have q0:=HH.1.box.1 0 _ rfl;have q1:=HH.1.box.1 1 _ rfl;have q2:=HH.1.box.1 2 _ rfl;have q3:=HH.1.box.1 3 _ rfl;have q4:=HH.1.box.1 4 _ rfl;have q5:=HH.1.box.1 5 _ rfl;have q6:=HH.1.box.1 6 _ rfl;have r0:=HH.1.res.1 0 _ rfl;have r1:=HH.1.res.1 1 _ rfl;have r2:=HH.1.res.1 2 _ rfl;have r3:=HH.1.res.1 3 _ rfl;have r4:=HH.1.res.1 4 _ rfl;have r5:=HH.1.res.1 5 _ rfl;have r6:=HH.1.res.1 6 _ rfl;have rf:=HH.1.res.2;clear eO;obtain ⟨f8,b8,c8⟩:=rK HH.1.rty HH.1.res (.I O.K) (.U O.S) (.S pp9 O.P.length cp9) (.I O.F) (.S pq9 O.V.length cv9) (.U O.E) (.U O.G);obtain ⟨v8,xZ⟩:=ax (qE v7 w.heap.size (.I O.K) (.U O.S) (.S pp9 O.P.length cp9) (.I O.F) (.S pq9 O.V.length cv9) (.U O.E) (.U O.G));rw [<-xZ] at f8 b8 c8;have H8:=ae (ag f8 (ag b8 c8));clear f8 b8 c8;unfold qE at xZ;go_wp2;rw [<-xZ];clear xZ q0 q1 q2 q3 q4 q5 q6 r0 r1 r2 r3 r4 r5 r6 rf;obtain ⟨f8,b8,c8⟩:=aa H8;have s0:=c8.1 0 _ rfl;have s1:=c8.1 1 _ rfl;have s2:=c8.1 2 _ rfl;have s3:=c8.1 3 _ rfl;have s4:=c8.1 4 _ rfl;have s5:=c8.1 5 _ rfl;have s6:=c8.1 6 _ rfl;refine bodyPost_ret (v:=lW O.K O.S (.S pp9 O.P.length cp9) O.F (.S pq9 O.V.length cv9) O.E O.G) (by simp [results,results31,go_sem,s0,s1,s2,s3,s4,s5,s6]) rfl ?_;obtain ⟨hx,tP,tV⟩:=aa HH;have:=hx.gl;exact ⟨_,_,_,_,rfl,tP.fr f8,tV.fr f8,hx.jP.low b8 hx.gl,hx.dr.add b8 hx.gl⟩
end Go.Proofs.YtcfcafeciggjeaaGreatDoor
