import Derived.Test.YtcfcafeciggjeaaGreatDoorK46
namespace Go.Proofs.YtcfcafeciggjeaaGreatDoor
set_option linter.all false
set_option maxRecDepth 100000
open Go.ChangeShapes Go.WideShapes Go.ChangeAt Go.RowKit Go.Deep
variable {D:SD} {P:List Int} {f:aD->aD} {v:Int}
def ti (I:Nat) (f:aD->aD) (D:SD):SD:=match D.ns[I]? with
 | none=>D
 | some nd=>{ D with ns:=D.ns.set I (f nd) }
def BU (J:Nat) (f:aY->aY) (D:SD):SD:=match D.ss[J]? with
 | none=>D
 | some s=>{ D with ss:=D.ss.set J (f s) }
def spA (I:Nat) (D:SD):SD:=match D.ns[I]? with
 | none=>D
 | some nd=>{ D with ns:=D.ns++[nd] }
def bE (k:Nat) (v:Int) (I J:Nat) (P:List Int) (D:SD):SD:=
 if k=0 then { D with g:=4611686018427387904+v % 2 } else if k=1 then { D with x:=4611686018427387904+v % 2 } else if k=2 then { D with t:=1000000+v % 2 } else if k=3 then { D with t:=-1 }
 else if D.ns.length=0\/D.ss.length=0 then { D with e:=4611686018427387904+v % 2 }
 else if k=4 then BU J (fun s=>(0,s.2.1,s.2.2)) D
 else if k=5 then BU J (fun s=>(s.1,1000015+v % 2,s.2.2)) D
 else if k=6 then BU J (fun s=>(s.1,s.2.1,s.2.2++[(v % 6,[47,97])])) D
 else if k=7 then BU J (fun s=>(s.1,s.2.1,s.2.2++List.replicate ((7+v % 3).toNat-s.2.2.length) (1,[47,97]))) D
 else if k=8 then ti I (fun nd=>{ nd with mode:=v % 4 }) D
 else if k=9 then ti I (fun nd=>{ nd with holders:=ig nd.holders (v % 5) }) D
 else if k=10 then ti I (fun nd=>{ nd with watchers:=nd.watchers++[v % 5] }) D
 else if k=11 then ti I (fun nd=>{ nd with owner:=v % 5 }) D
 else if k=12 then ti I (fun nd=>{ nd with gen:=D.g+v % 2 }) D
 else if k=13 then ti I (fun nd=>{ nd with aB:=D.e+v % 2 }) D
 else if k=14 then AH D I
 else if k=15 then spA I D
 else if k=16 then ti I (fun nd=>{ nd with value:=List.replicate (40+v % 2).toNat 113 }) D
 else if k=17 then ti I (fun nd=>{ nd with path:=P }) D
 else if k=18 then BU J (fun s=>(s.1,-1,s.2.2)) D
 else if k=19 then { D with x:=0 }
 else if k=20 then { D with ss:=D.ss++[(v % 5,0,[])] }
 else { D with ss:=D.ss.drop 1 }
theorem UE.num (h:UE D) {e g x t:Int} (he:0<=e/\e<18446744073709551616) (hg:0<=g/\g<18446744073709551616) (hx:0<=x/\x<18446744073709551616):UE ⟨e,g,x,t,D.ss,D.ns⟩:=⟨he,hg,hx,h.sl,h.nl,h.s,h.n⟩
def NBd (nd:aD):Prop:=bM nd.path/\nd.path.length<=1000/\nd.value.length<=1000/\bM nd.value/\nd.holders.length<=1000/\nd.watchers.length<=1000
theorem UE.ti (h:UE D) (I:Nat) (hf:∀ nd∈D.ns,NBd (f nd)):UE (ti I f D):=by
 unfold Proofs.YtcfcafeciggjeaaGreatDoor.ti;cases hk:D.ns[I]? with
 | none=>exact h
 | some nd=>
  refine ⟨h.e,h.g,h.x,h.sl,by show (List.set _ _ _).length<=_;rw [List.length_set];exact h.nl,h.s,fun y hy=>?_⟩;rcases List.mem_or_eq_of_mem_set hy with hy | rfl;{exact h.n y hy};{exact hf nd (aF hk)}
theorem UE.BU (h:UE D) (J:Nat) {f:aY->aY} (hf:∀ s∈D.ss,(f s).2.2.length<=1000/\∀ e∈(f s).2.2,bM e.2/\e.2.length<=1000):UE (BU J f D):=by
 unfold Proofs.YtcfcafeciggjeaaGreatDoor.BU;cases hk:D.ss[J]? with
 | none=>exact h
 | some s=>
  refine ⟨h.e,h.g,h.x,by show (List.set _ _ _).length<=_;rw [List.length_set];exact h.sl,h.nl,fun y hy=>?_,h.n⟩;rcases List.mem_or_eq_of_mem_set hy with hy | rfl;{exact h.s y hy};{exact hf s (aF hk)}
theorem Om:bM [47,97]:=fun z hz=>by simp at hz;omega
theorem Sy (hv:VD D) (he:0<=D.e) (k:Nat) (hr:0<=v/\v<256) (I J:Nat) (hP:bM P) (lP:P.length<=18):UE (bE k v I J P D):=by
 have h:=hv.bd1 he;have e0:=h.e;have g0:=h.g;have x0:=h.x;have e1:=hv.e;have g1:=hv.g;have hq:∀ s∈D.ss,s.2.2.length<=8:=fun s hs=>(hv.s2 s hs).q.1;have hh:∀ nd∈D.ns,nd.holders.length<=50/\nd.watchers.length<=50:=fun nd aV=>⟨hv.ids (hv.n2 nd aV).h1 (hv.n2 nd aV).h2,hv.ids (hv.n2 nd aV).w1 (hv.n2 nd aV).w2⟩
 unfold bE;by_cases c0:k=0;{rw [if_pos c0];exact h.num e0 ab x0};rw [if_neg c0];by_cases c1:k=1;{rw [if_pos c1];exact h.num e0 g0 ab};rw [if_neg c1];by_cases c2:k=2;{rw [if_pos c2];exact h.num e0 g0 x0};rw [if_neg c2];by_cases c3:k=3;{rw [if_pos c3];exact h.num e0 g0 x0};rw [if_neg c3];by_cases c4:D.ns.length=0\/D.ss.length=0;{rw [if_pos c4];exact h.num ab g0 x0};rw [if_neg c4];by_cases c5:k=4;{rw [if_pos c5];exact h.BU J (fun s hs=>h.s s hs)};rw [if_neg c5];by_cases c6:k=5;{rw [if_pos c6];exact h.BU J (fun s hs=>h.s s hs)};rw [if_neg c6];by_cases c7:k=6;{rw [if_pos c7];refine h.BU J fun s hs=>⟨by have:=hq s hs;simp;omega,fun e he=>?_⟩;rcases List.mem_append.1 he with he | he;{exact (h.s s hs).2 e he};{simp at he;rw [he];exact ⟨Om,aU⟩}};rw [if_neg c7];by_cases c8:k=7;{rw [if_pos c8];refine h.BU J fun s hs=>⟨by have:=hq s hs;simp;omega,fun e he=>?_⟩;rcases List.mem_append.1 he with he | he;{exact (h.s s hs).2 e he};{rw [List.eq_of_mem_replicate he];exact ⟨Om,aU⟩}};rw [if_neg c8];by_cases c9:k=8;{rw [if_pos c9];exact h.ti I fun nd aV=>h.n nd aV};rw [if_neg c9];by_cases c10:k=9;{rw [if_pos c10];refine h.ti I fun nd aV=>?_;have a:=h.n nd aV;have:=EF nd.holders (v % 5);have:=(hh nd aV).1;exact ⟨a.1,a.2.1,a.2.2.1,a.2.2.2.1,by show (ig _ _).length<=_;omega,a.2.2.2.2.2⟩};rw [if_neg c10];by_cases c11:k=10;{rw [if_pos c11];refine h.ti I fun nd aV=>?_;have a:=h.n nd aV;have:=(hh nd aV).2;exact ⟨a.1,a.2.1,a.2.2.1,a.2.2.2.1,a.2.2.2.2.1,by show (_++[_]).length<=_;simp;omega⟩};rw [if_neg c11];by_cases c12:k=11;{rw [if_pos c12];exact h.ti I fun nd aV=>h.n nd aV};rw [if_neg c12];by_cases c13:k=12;{rw [if_pos c13];exact h.ti I fun nd aV=>h.n nd aV};rw [if_neg c13];by_cases c14:k=13;{rw [if_pos c14];exact h.ti I fun nd aV=>h.n nd aV};rw [if_neg c14];by_cases c15:k=14;{rw [if_pos c15];exact ⟨h.e,h.g,h.x,h.sl,Nat.le_trans (List.Sublist.length_le (List.eraseIdx_sublist _ _)) h.nl,h.s,fun y hy=>h.n y (List.mem_of_mem_eraseIdx hy)⟩};rw [if_neg c15];by_cases c16:k=15;{
 rw [if_pos c16];unfold spA;have nl:=hv.nl;cases hk:D.ns[I]? with
 | none=>exact h
 | some nd=>
  refine ⟨h.e,h.g,h.x,h.sl,by show (_++[_]).length<=_;simp;omega,h.s,fun y hy=>?_⟩;rcases List.mem_append.1 hy with hy | hy;{exact h.n y hy};{simp at hy;rw [hy];exact h.n nd (aF hk)}};rw [if_neg c16];by_cases c17:k=16;{rw [if_pos c17];refine h.ti I fun nd aV=>?_;have a:=h.n nd aV;exact ⟨a.1,a.2.1,by show (List.replicate _ _).length<=_;rw [List.length_replicate];omega,vu _ ab,a.2.2.2.2⟩};rw [if_neg c17];by_cases c18:k=17;{rw [if_pos c18];refine h.ti I fun nd aV=>?_;have a:=h.n nd aV;exact ⟨hP,by show P.length<=_;omega,a.2.2⟩};rw [if_neg c18];by_cases c19:k=18;{rw [if_pos c19];exact h.BU J (fun s hs=>h.s s hs)};rw [if_neg c19];by_cases c20:k=19;{rw [if_pos c20];exact h.num e0 g0 ab};rw [if_neg c20];by_cases c21:k=20;{rw [if_pos c21];have sl:=hv.sl;refine ⟨h.e,h.g,h.x,by show (_++[_]).length<=_;simp;omega,h.nl,fun y hy=>?_,h.n⟩;rcases List.mem_append.1 hy with hy | hy;{exact h.s y hy};{simp at hy;rw [hy];exact ⟨aU,fun e he=>by simp at he⟩}};rw [if_neg c21];exact ⟨h.e,h.g,h.x,by have:=h.sl;show (List.drop _ _).length<=_;simp;omega,h.nl,fun y hy=>h.s y (List.mem_of_mem_drop hy),h.n⟩
theorem SpS.idn {B:Nat} {w:World} {g n cap:Nat} {ss:List aY} {Qs:List Value} (h:SpS B w (.S (some ⟨g,0,none⟩) n cap) ss Qs) {i:Nat} {s:aY} (hx:ss[i]?=some s) (d:Int) :
  SpS B (w.setCell ⟨g,i*3,none⟩ (.U d)) (.S (some ⟨g,0,none⟩) n cap) (ss.set i (d,s.2.1,s.2.2)) Qs/\Fr [35] w (w.setCell ⟨g,i*3,none⟩ (.U d)):=by
 obtain ⟨cur,hc⟩:=h.row.nJ g rfl;have hf:Fr [35] w (w.setCell ⟨g,i*3,none⟩ (.U d)):=Fr.set hc aU;have hi:=(aN.1 hx).1;obtain ⟨Q,hQ⟩:∃ Q,Qs[i]?=some Q:=⟨_,aK (by rw [h.len];exact hi)⟩;have hz:(ss.zip Qs)[i]?=some (s,Q):=by rw [List.getElem?_zip_eq_some];exact ⟨hx,hQ⟩
 refine ⟨⟨by rw [List.length_set];exact h.len,?_,fun k s' Q' hs hq=>?_,h.rj⟩,hf⟩;{
 have:=RT.put h.row hz (j:=0) ab (.U d) ((d,s.2.1,s.2.2),Q) (fun _ _ h=>h) (fun c _ he=>by
  unfold r8 at he ⊢;subst he
  rfl)
 rwa [vm,kN hQ] at this};{rw [List.getElem?_set] at hs;by_cases e:i=k;{subst e;rw [if_pos rfl,if_pos hi] at hs;cases hs;exact mu.fr (h.za i s Q' hx hq) hf};{rw [if_neg e] at hs;exact mu.fr (h.za k s' Q' hs hq) hf}}
theorem Sn.ti (h:Sn D.ss D.ns) (I:Nat) (hf:∀ nd∈D.ns,NM (f nd)):Sn (ti I f D).ss (ti I f D).ns:=by
 unfold Proofs.YtcfcafeciggjeaaGreatDoor.ti;cases hk:D.ns[I]? with
 | none=>exact h
 | some nd=>
  refine ⟨h.n1,by show (List.set _ _ _).length<=_;rw [List.length_set];exact h.n2,h.s,fun y hy=>?_⟩;rcases List.mem_or_eq_of_mem_set hy with hy | rfl;{exact h.d y hy};{exact hf nd (aF hk)}
theorem Sn.BU (h:Sn D.ss D.ns) (J:Nat) {f:aY->aY} (hf:∀ s∈D.ss,0<=(f s).1/\(f s).1<18446744073709551616):Sn (BU J f D).ss (BU J f D).ns:=by
 unfold Proofs.YtcfcafeciggjeaaGreatDoor.BU;cases hk:D.ss[J]? with
 | none=>exact h
 | some s=>
  refine ⟨by show (List.set _ _ _).length<=_;rw [List.length_set];exact h.n1,h.n2,fun y hy=>?_,h.d⟩;rcases List.mem_or_eq_of_mem_set hy with hy | rfl;{exact h.s y hy};{exact hf s (aF hk)}
theorem Vh (hv:VD D) (he:UD D) (k:Nat) (hr:0<=v/\v<256) (I J:Nat) (lP:P.length<=18):Sn (bE k v I J P D).ss (bE k v I J P D).ns:=by
 have h:=hv.smw he;have hg:=hv.g;have h1:=hv.e;have h2:=he.1;have sl:=hv.sl;have nl:=hv.nl;have hh:∀ nd∈D.ns,nd.holders.length<=50:=fun nd aV=>hv.ids (hv.n2 nd aV).h1 (hv.n2 nd aV).h2;unfold bE;by_cases c0:k=0;{rw [if_pos c0];exact h};rw [if_neg c0];by_cases c1:k=1;{rw [if_pos c1];exact h};rw [if_neg c1];by_cases c2:k=2;{rw [if_pos c2];exact h};rw [if_neg c2];by_cases c3:k=3;{rw [if_pos c3];exact h};rw [if_neg c3];by_cases c4:D.ns.length=0\/D.ss.length=0;{rw [if_pos c4];exact h};rw [if_neg c4];by_cases c5:k=4;{rw [if_pos c5];exact h.BU J fun s hs=>⟨Int.le_refl 0,by show (0:Int)<18446744073709551616;decide⟩};rw [if_neg c5];by_cases c6:k=5;{rw [if_pos c6];exact h.BU J fun s hs=>h.s s hs};rw [if_neg c6];by_cases c7:k=6;{rw [if_pos c7];exact h.BU J fun s hs=>h.s s hs};rw [if_neg c7];by_cases c8:k=7;{rw [if_pos c8];exact h.BU J fun s hs=>h.s s hs};rw [if_neg c8];by_cases c9:k=8;{rw [if_pos c9];refine h.ti I fun nd aV=>?_;obtain ⟨a,b,c⟩:=h.d nd aV;exact ⟨a,by show 0<=v % 4/\v % 4<=3;omega,c⟩};rw [if_neg c9];by_cases c10:k=9;{rw [if_pos c10];refine h.ti I fun nd aV=>?_;obtain ⟨a,b,c,d,e,f⟩:=h.d nd aV;have:=EF nd.holders (v % 5);have:=hh nd aV;refine ⟨⟨a.1,a.2.1,by show (ig _ _).length<=_;omega⟩,b,c,d,e,fun i hi=>?_⟩;rcases nY.1 hi with rfl | hi;{omega};{exact f i hi}};rw [if_neg c10];by_cases c11:k=10;{rw [if_pos c11];exact h.ti I fun nd aV=>h.d nd aV};rw [if_neg c11];by_cases c12:k=11;{rw [if_pos c12];refine h.ti I fun nd aV=>?_;obtain ⟨a,b,c,d⟩:=h.d nd aV;exact ⟨a,b,by show 0<=v % 5/\v % 5<18446744073709551616;omega,d⟩};rw [if_neg c12];by_cases c13:k=12;{rw [if_pos c13];refine h.ti I fun nd aV=>?_;obtain ⟨a,b,c,d,e,f⟩:=h.d nd aV;exact ⟨a,b,c,d,by show 0<=D.g+v % 2/\D.g+v % 2<18446744073709551616;omega,f⟩};rw [if_neg c13];by_cases c14:k=13;{rw [if_pos c14];refine h.ti I fun nd aV=>?_;obtain ⟨a,b,c,d,e⟩:=h.d nd aV;exact ⟨a,b,c,by show 0<=D.e+v % 2/\D.e+v % 2<18446744073709551616;omega,e⟩};rw [if_neg c14];by_cases c15:k=14;{rw [if_pos c15];exact ⟨h.n1,Nat.le_trans (List.Sublist.length_le (List.eraseIdx_sublist _ _)) h.n2,h.s,fun y hy=>h.d y (List.mem_of_mem_eraseIdx hy)⟩};rw [if_neg c15];by_cases c16:k=15;{
 rw [if_pos c16];unfold spA;cases hk:D.ns[I]? with
 | none=>exact h
 | some nd=>
  refine ⟨h.n1,by show (_++[_]).length<=_;simp;omega,h.s,fun y hy=>?_⟩;rcases List.mem_append.1 hy with hy | hy;{exact h.d y hy};{simp at hy;rw [hy];exact h.d nd (aF hk)}};rw [if_neg c16];by_cases c17:k=16;{rw [if_pos c17];refine h.ti I fun nd aV=>?_;obtain ⟨a,b⟩:=h.d nd aV;exact ⟨⟨a.1,by show (List.replicate _ _).length<=_;rw [List.length_replicate];omega,a.2.2⟩,b⟩};rw [if_neg c17];by_cases c18:k=17;{rw [if_pos c18];refine h.ti I fun nd aV=>?_;obtain ⟨a,b⟩:=h.d nd aV;exact ⟨⟨by show P.length<=_;omega,a.2⟩,b⟩};rw [if_neg c18];by_cases c19:k=18;{rw [if_pos c19];exact h.BU J fun s hs=>h.s s hs};rw [if_neg c19];by_cases c20:k=19;{rw [if_pos c20];exact h};rw [if_neg c20];by_cases c21:k=20;{rw [if_pos c21];refine ⟨by show (_++[_]).length<=_;simp;omega,h.n2,fun s hs=>?_,h.d⟩;rcases List.mem_append.1 hs with hs | hs;{exact h.s s hs};{simp at hs;rw [hs];show 0<=v % 5/\v % 5<18446744073709551616;omega}};rw [if_neg c21];exact ⟨by show (List.drop _ _).length<=_;rw [List.length_drop];omega,h.n2,fun s hs=>h.s s (List.mem_of_mem_drop hs),h.d⟩
theorem Cw (hv:VD D) (he:UD D) (k:Nat) (hr:0<=v/\v<256) (I J:Nat) (hP:bM P) (lP:P.length<=18):BD (bE k v I J P D):=⟨Sy hv he.1 k hr I J hP lP,Vh hv he k hr I J lP⟩
end Go.Proofs.YtcfcafeciggjeaaGreatDoor
