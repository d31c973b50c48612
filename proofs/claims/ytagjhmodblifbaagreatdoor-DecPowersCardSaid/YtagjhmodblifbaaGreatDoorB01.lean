/- proved lemmas -/
import Derived.Test.YtagjhmodblifbaaGreatDoorMA
import Derived.Shelf.Strings.Builder1
import Derived.Shelf.Strings.Builder2
import Derived.Shelf.Strings.Trim
import Derived.Shelf.Small.Utf8
import Derived.Shelf.Small.Bits
import Derived.Shelf.Small.Strs
import Derived.Shelf.Small.Wraps
import Derived.Shelf.Strings.BuilderF
import Derived.Shelf.Strconv.Itoa0
import Derived.Shelf.Strings.Search1
import Derived.Shelf.Strings.Prefix
import Derived.Shelf.Bits.Mul64
import Derived.Shelf.Strings.Repeat
import Derived.Ground.Names2Prog
import Derived.Shelf.Slices.SearchI
import Derived.Test.YtagjhmodblifbaaGreatDoorProg
import Derived.Test.YtagjhmodblifbaaGreatDoorB00
import Derived.Laws.EntriesVeiled
import Derived.Deep.RegionHeld3
set_option maxHeartbeats 4000000
set_option maxRecDepth 100000
namespace Go.Proofs
open Go.Shelf
def Tryz.lays162_ren:Go.Shelf.Ren:=⟨fun | 162=>178 | 232=>212 | 227=>213 | 234=>214 | 236=>215 | 228=>238 | 271=>239 | 151=>240 | 120=>256 | 197=>257 | 152=>258 | 260=>264 | 137=>265 | 119=>266 | 224=>267 | 225=>268 | 217=>269 | 266=>270 | n=>n,fun | 9=>9 | 4=>4 | 3=>3 | 5=>5 | 117=>194 | 116=>193 | 0=>0 | 124=>197 | 21=>21 | 105=>221 | 46=>169 | 119=>244 | 139=>247 | 138=>246 | n=>n,fun | 3=>2 | 4=>3 | n=>n⟩
theorem Tryz.lays162:Go.Proofs.Lays.n162 Tryz.prog Tryz.lays162_ren:={
 mixed:=by kernel_rfl
 f119:=Tryz.func266.trans (congrArg some (by kernel_rfl))
 f120:=Tryz.func256.trans (congrArg some (by kernel_rfl))
 f137:=Tryz.func265.trans (congrArg some (by kernel_rfl))
 f151:=Tryz.func240.trans (congrArg some (by kernel_rfl))
 f152:=Tryz.func258.trans (congrArg some (by kernel_rfl))
 f162:=Tryz.func178.trans (congrArg some (by kernel_rfl))
 f197:=Tryz.func257.trans (congrArg some (by kernel_rfl))
 f217:=Tryz.func269.trans (congrArg some (by kernel_rfl))
 f224:=Tryz.func267.trans (congrArg some (by kernel_rfl))
 f225:=Tryz.func268.trans (congrArg some (by kernel_rfl))
 f227:=Tryz.func213.trans (congrArg some (by kernel_rfl))
 f228:=Tryz.func238.trans (congrArg some (by kernel_rfl))
 f232:=Tryz.func212.trans (congrArg some (by kernel_rfl))
 f234:=Tryz.func214.trans (congrArg some (by kernel_rfl))
 f236:=Tryz.func215.trans (congrArg some (by kernel_rfl))
 f260:=Tryz.func264.trans (congrArg some (by kernel_rfl))
 f266:=Tryz.func270.trans (congrArg some (by kernel_rfl))
 f271:=Tryz.func239.trans (congrArg some (by kernel_rfl))
 t0:=Tryz.underlying0
 a0:=Tryz.isAgg0
 z0:=Tryz.sizeOf0
 v0:=Tryz.zeroValue0
 t3:=Tryz.underlying3
 a3:=Tryz.isAgg3
 z3:=Tryz.sizeOf3
 v3:=Tryz.zeroValue3
 t4:=Tryz.underlying4
 a4:=Tryz.isAgg4
 z4:=Tryz.sizeOf4
 v4:=Tryz.zeroValue4
 t5:=Tryz.underlying5
 a5:=Tryz.isAgg5
 z5:=Tryz.sizeOf5
 v5:=Tryz.zeroValue5
 t9:=Tryz.underlying9
 a9:=Tryz.isAgg9
 z9:=Tryz.sizeOf9
 v9:=Tryz.zeroValue9
 t21:=Tryz.underlying21
 a21:=Tryz.isAgg21
 z21:=Tryz.sizeOf21
 v21:=Tryz.zeroValue21
 t46:=Tryz.underlying169
 a46:=Tryz.isAgg169
 z46:=Tryz.sizeOf169
 v46:=Tryz.zeroValue169
 t105:=Tryz.underlying221
 a105:=Tryz.isAgg221
 z105:=Tryz.sizeOf221
 v105:=Tryz.zeroValue221
 t116:=Tryz.underlying193
 a116:=Tryz.isAgg193
 z116:=Tryz.sizeOf193
 t117:=Tryz.underlying194
 a117:=Tryz.isAgg194
 z117:=Tryz.sizeOf194
 v117:=Tryz.zeroValue194
 t119:=Tryz.underlying244
 a119:=Tryz.isAgg244
 z119:=Tryz.sizeOf244
 t124:=Tryz.underlying197
 a124:=Tryz.isAgg197
 z124:=Tryz.sizeOf197
 v124:=Tryz.zeroValue197
 t138:=Tryz.underlying246
 a138:=Tryz.isAgg246
 z138:=Tryz.sizeOf246
 v138:=Tryz.zeroValue246
 t139:=Tryz.underlying247
 a139:=Tryz.isAgg247
 z139:=Tryz.sizeOf247
 v139:=Tryz.zeroValue247
 g3:=by kernel_rfl
 g4:=by kernel_rfl }
open Go.RowKit in
theorem Tryz.strings_TrimRight_one (s:ByteArray)(c:UInt8)(a:c.toNat<128)(w:World)(hs:s.size≤9223372036854775807) :
  Calls Tryz.prog 178 #[.string s,.string ⟨#[c]⟩] w fun e b=>e=.returned (.string ⟨(Lib.trimRightB s.data.toList c).toArray⟩)∧b=w:=Any.strings_TrimRight_one Tryz.lays162 s c a w hs
def Tryz.lays128_ren:Go.Shelf.Ren:=⟨fun | 128=>225 | n=>n,fun | 51=>128 | 3=>3 | 4=>4 | 46=>169 | 5=>5 | 9=>9 | n=>n,fun | n=>n⟩
theorem Tryz.lays128:Go.Proofs.Lays.n128 Tryz.prog Tryz.lays128_ren:={
 mixed:=by kernel_rfl
 f128:=Tryz.func225.trans (congrArg some (by kernel_rfl))
 t3:=Tryz.underlying3
 a3:=Tryz.isAgg3
 z3:=Tryz.sizeOf3
 v3:=Tryz.zeroValue3
 t4:=Tryz.underlying4
 a4:=Tryz.isAgg4
 z4:=Tryz.sizeOf4
 v4:=Tryz.zeroValue4
 t5:=Tryz.underlying5
 a5:=Tryz.isAgg5
 z5:=Tryz.sizeOf5
 v5:=Tryz.zeroValue5
 t9:=Tryz.underlying9
 a9:=Tryz.isAgg9
 z9:=Tryz.sizeOf9
 v9:=Tryz.zeroValue9
 t46:=Tryz.underlying169
 a46:=Tryz.isAgg169
 z46:=Tryz.sizeOf169
 v46:=Tryz.zeroValue169
 t51:=Tryz.underlying128
 a51:=Tryz.isAgg128
 z51:=Tryz.sizeOf128
 v51:=Tryz.zeroValue128 }
theorem Tryz.bits_Len32 (x:Int)(w:World)(h0:0≤x)(h1:x≤4294967295) :
  Calls Tryz.prog 225 #[.int .u32 x] w fun e a=>e=.returned (.int .i64 (Lib.bitLen x.toNat))∧a=w:=Any.bits_Len32 Tryz.lays128 x w h0 h1
def Tryz.lays125_ren:Go.Shelf.Ren:=⟨fun | 125=>227 | 128=>225 | 129=>250 | n=>n,fun | 46=>169 | 3=>3 | 51=>128 | 53=>138 | 4=>4 | 5=>5 | 9=>9 | n=>n,fun | n=>n⟩
theorem Tryz.lays125:Go.Proofs.Lays.n125 Tryz.prog Tryz.lays125_ren:={
 mixed:=by kernel_rfl
 f125:=Tryz.func227.trans (congrArg some (by kernel_rfl))
 f128:=Tryz.func225.trans (congrArg some (by kernel_rfl))
 f129:=Tryz.func250.trans (congrArg some (by kernel_rfl))
 t3:=Tryz.underlying3
 a3:=Tryz.isAgg3
 z3:=Tryz.sizeOf3
 v3:=Tryz.zeroValue3
 t4:=Tryz.underlying4
 a4:=Tryz.isAgg4
 z4:=Tryz.sizeOf4
 v4:=Tryz.zeroValue4
 t5:=Tryz.underlying5
 a5:=Tryz.isAgg5
 z5:=Tryz.sizeOf5
 v5:=Tryz.zeroValue5
 t9:=Tryz.underlying9
 a9:=Tryz.isAgg9
 z9:=Tryz.sizeOf9
 v9:=Tryz.zeroValue9
 t46:=Tryz.underlying169
 a46:=Tryz.isAgg169
 z46:=Tryz.sizeOf169
 v46:=Tryz.zeroValue169
 t51:=Tryz.underlying128
 a51:=Tryz.isAgg128
 z51:=Tryz.sizeOf128
 v51:=Tryz.zeroValue128
 t53:=Tryz.underlying138
 a53:=Tryz.isAgg138
 z53:=Tryz.sizeOf138
 v53:=Tryz.zeroValue138 }
theorem Tryz.bits_Len (x:Int)(w:World)(h0:0≤x)(h1:x≤18446744073709551615) :
  Calls Tryz.prog 227 #[.int .u64 x] w fun e a=>e=.returned (.int .i64 (Lib.bitLen x.toNat))∧a=w:=Any.bits_Len Tryz.lays125 x w h0 h1
def Tryz.lays133_ren:Go.Shelf.Ren:=⟨fun | 133=>261 | 128=>225 | n=>n,fun | 51=>128 | 3=>3 | 4=>4 | 46=>169 | 5=>5 | 9=>9 | n=>n,fun | n=>n⟩
theorem Tryz.lays133:Go.Proofs.Lays.n133 Tryz.prog Tryz.lays133_ren:={
 mixed:=by kernel_rfl
 f128:=Tryz.func225.trans (congrArg some (by kernel_rfl))
 f133:=Tryz.func261.trans (congrArg some (by kernel_rfl))
 t3:=Tryz.underlying3
 a3:=Tryz.isAgg3
 z3:=Tryz.sizeOf3
 v3:=Tryz.zeroValue3
 t4:=Tryz.underlying4
 a4:=Tryz.isAgg4
 z4:=Tryz.sizeOf4
 v4:=Tryz.zeroValue4
 t5:=Tryz.underlying5
 a5:=Tryz.isAgg5
 z5:=Tryz.sizeOf5
 v5:=Tryz.zeroValue5
 t9:=Tryz.underlying9
 a9:=Tryz.isAgg9
 z9:=Tryz.sizeOf9
 v9:=Tryz.zeroValue9
 t46:=Tryz.underlying169
 a46:=Tryz.isAgg169
 z46:=Tryz.sizeOf169
 v46:=Tryz.zeroValue169
 t51:=Tryz.underlying128
 a51:=Tryz.isAgg128
 z51:=Tryz.sizeOf128
 v51:=Tryz.zeroValue128 }
theorem Tryz.bits_LeadingZeros32 (x:Int)(w:World)(h0:0≤x)(h1:x≤4294967295) :
  Calls Tryz.prog 261 #[.int .u32 x] w fun e a=>e=.returned (.int .i64 (32 - (Lib.bitLen x.toNat:Int)))∧a=w:=Any.bits_LeadingZeros32 Tryz.lays133 x w h0 h1
def Tryz.lays103_ren:Go.Shelf.Ren:=⟨fun | 103=>176 | 210=>210 | 206=>234 | n=>n,fun | 9=>9 | 4=>4 | 24=>160 | 3=>3 | n=>n,fun | n=>n⟩
theorem Tryz.lays103:Go.Proofs.Lays.n103 Tryz.prog Tryz.lays103_ren:={
 mixed:=by kernel_rfl
 f103:=Tryz.func176.trans (congrArg some (by kernel_rfl))
 f206:=Tryz.func234.trans (congrArg some (by kernel_rfl))
 f210:=Tryz.func210.trans (congrArg some (by kernel_rfl))
 t3:=Tryz.underlying3
 a3:=Tryz.isAgg3
 z3:=Tryz.sizeOf3
 v3:=Tryz.zeroValue3
 t4:=Tryz.underlying4
 a4:=Tryz.isAgg4
 z4:=Tryz.sizeOf4
 v4:=Tryz.zeroValue4
 t9:=Tryz.underlying9
 a9:=Tryz.isAgg9
 z9:=Tryz.sizeOf9
 v9:=Tryz.zeroValue9
 t24:=Tryz.underlying160
 a24:=Tryz.isAgg160
 z24:=Tryz.sizeOf160
 v24:=Tryz.zeroValue160 }
open Go.RowKit in
theorem Tryz.strings_CutPrefix (s p:ByteArray)(w:World) :
  Calls Tryz.prog 176 #[.string s,.string p] w fun e a=>e=.returned (.tuple #[.string ⟨(Lib.trimPrefix s.data.toList p.data.toList).toArray⟩,.bool (Lib.hasPrefix s.data.toList p.data.toList)])∧a=w:=Any.strings_CutPrefix Tryz.lays103 s p w
def Tryz.lays105_ren:Go.Shelf.Ren:=⟨fun | 105=>173 | 212=>204 | 99=>205 | 165=>206 | 166=>207 | 170=>208 | 169=>209 | 263=>232 | 264=>233 | 206=>234 | 240=>235 | 241=>236 | 276=>253 | 277=>254 | n=>n,fun | 9=>9 | 3=>3 | 4=>4 | 20=>20 | 0=>0 | 46=>169 | 109=>180 | 5=>5 | 72=>185 | 76=>188 | 51=>128 | 146=>212 | 53=>138 | 148=>214 | 70=>183 | 37=>143 | 75=>187 | 127=>216 | 164=>233 | 80=>132 | n=>n,fun | n=>n⟩
theorem Tryz.lays105:Go.Proofs.Lays.n105 Tryz.prog Tryz.lays105_ren:={
 mixed:=by kernel_rfl
 f99:=Tryz.func205.trans (congrArg some (by kernel_rfl))
 f105:=Tryz.func173.trans (congrArg some (by kernel_rfl))
 f165:=Tryz.func206.trans (congrArg some (by kernel_rfl))
 f166:=Tryz.func207.trans (congrArg some (by kernel_rfl))
 f169:=Tryz.func209.trans (congrArg some (by kernel_rfl))
 f170:=Tryz.func208.trans (congrArg some (by kernel_rfl))
 f206:=Tryz.func234.trans (congrArg some (by kernel_rfl))
 f212:=Tryz.func204.trans (congrArg some (by kernel_rfl))
 f240:=Tryz.func235.trans (congrArg some (by kernel_rfl))
 f241:=Tryz.func236.trans (congrArg some (by kernel_rfl))
 f263:=Tryz.func232.trans (congrArg some (by kernel_rfl))
 f264:=Tryz.func233.trans (congrArg some (by kernel_rfl))
 f276:=Tryz.func253.trans (congrArg some (by kernel_rfl))
 f277:=Tryz.func254.trans (congrArg some (by kernel_rfl))
 t0:=Tryz.underlying0
 a0:=Tryz.isAgg0
 z0:=Tryz.sizeOf0
 v0:=Tryz.zeroValue0
 t3:=Tryz.underlying3
 a3:=Tryz.isAgg3
 z3:=Tryz.sizeOf3
 v3:=Tryz.zeroValue3
 t4:=Tryz.underlying4
 a4:=Tryz.isAgg4
 z4:=Tryz.sizeOf4
 v4:=Tryz.zeroValue4
 t5:=Tryz.underlying5
 a5:=Tryz.isAgg5
 z5:=Tryz.sizeOf5
 v5:=Tryz.zeroValue5
 t9:=Tryz.underlying9
 a9:=Tryz.isAgg9
 z9:=Tryz.sizeOf9
 v9:=Tryz.zeroValue9
 t20:=Tryz.underlying20
 a20:=Tryz.isAgg20
 z20:=Tryz.sizeOf20
 v20:=Tryz.zeroValue20
 t37:=Tryz.underlying143
 a37:=Tryz.isAgg143
 z37:=Tryz.sizeOf143
 v37:=Tryz.zeroValue143
 t46:=Tryz.underlying169
 a46:=Tryz.isAgg169
 z46:=Tryz.sizeOf169
 v46:=Tryz.zeroValue169
 t51:=Tryz.underlying128
 a51:=Tryz.isAgg128
 z51:=Tryz.sizeOf128
 v51:=Tryz.zeroValue128
 t53:=Tryz.underlying138
 a53:=Tryz.isAgg138
 z53:=Tryz.sizeOf138
 v53:=Tryz.zeroValue138
 t70:=Tryz.underlying183
 a70:=Tryz.isAgg183
 z70:=Tryz.sizeOf183
 v70:=Tryz.zeroValue183
 t72:=Tryz.underlying185
 a72:=Tryz.isAgg185
 z72:=Tryz.sizeOf185
 v72:=Tryz.zeroValue185
 t75:=Tryz.underlying187
 a75:=Tryz.isAgg187
 z75:=Tryz.sizeOf187
 v75:=Tryz.zeroValue187
 t76:=Tryz.underlying188
 a76:=Tryz.isAgg188
 z76:=Tryz.sizeOf188
 v76:=Tryz.zeroValue188
 t109:=Tryz.underlying180
 a109:=Tryz.isAgg180
 z109:=Tryz.sizeOf180
 v109:=Tryz.zeroValue180
 t127:=Tryz.underlying216
 a127:=Tryz.isAgg216
 z127:=Tryz.sizeOf216
 v127:=Tryz.zeroValue216
 t146:=Tryz.underlying212
 a146:=Tryz.isAgg212
 z146:=Tryz.sizeOf212
 v146:=Tryz.zeroValue212
 t148:=Tryz.underlying214
 a148:=Tryz.isAgg214
 z148:=Tryz.sizeOf214
 v148:=Tryz.zeroValue214
 t164:=Tryz.underlying233
 a164:=Tryz.isAgg233
 z164:=Tryz.sizeOf233
 v164:=Tryz.zeroValue233 }
theorem Tryz.Builder_Extra_105:Builder.Extra Tryz.prog Tryz.lays105_ren:={
 sizeBuilder:=by kernel_rfl
 liesBuilder:=by kernel_rfl
 t5:=Tryz.underlying5
 a5:=Tryz.isAgg5
 z5:=Tryz.sizeOf5
 v5:=Tryz.zeroValue5
 infoByte:=by kernel_rfl
 cellsByte:=by kernel_rfl
 sizeByte:=by kernel_rfl
 neB5:=by decide }
open Go.RowKit Go.Lib in
theorem Tryz.strings_Repeat (s:ByteArray)(c:Nat)(w:World)(a:c≤9223372036854775807)(hlen:s.size*c≤140737488355328) :
  Calls Tryz.prog 173 #[.string s,.int .i64 c] w fun e b=>e=.returned (.string ⟨(Lib.repeatL s.data.toList c).toArray⟩)∧Below w.heap.size w b:=Any.strings_Repeat Tryz.lays105 Tryz.Builder_Extra_105 s c w a hlen
end Go.Proofs
namespace Go.Proofs.YtagjhmodblifbaaGreatDoor
open Go.Proofs.Tryz
open Go Go.RowKit Go.Shelf
theorem dK (neg:Bool)(a:Option Addr)(n b:Nat)(w:World) :
 CB 184 #[.bool neg,.slice a n b] w fun e _=>e=.returned (vN (neg&&decide (0<n)) a n b):=by
 cases neg
 ·go_enter func184,ntmps184
  go_wp2;exact bodyPost_ret (v:=vN false a n b) (by simp [results,results184,go_sem]) rfl ⟨dJ _ _,rfl⟩
 ·go_enter func184,ntmps184
  go_wp2;exact bodyPost_ret (v:=vN (decide (0<n)) a n b) (by simp [results,results184,go_sem]) rfl ⟨dJ _ _,rfl⟩
theorem uC (w:World):Calls prog 226 #[] w fun e a=>bW w a∧∃ v,e=.returned v∧Reads .u32 a v [1]:=by
 go_enter func226,ntmps226;go_wp2;go_ret;exact ⟨dJ _ _,_,rfl,af.reads (xs:=[1]) (af.new w 128 [.int .u32 1]) 1 1 rfl (by omega) (by simp [maxLen])⟩
theorem aC (b:Bool)(a:Int)(w:World)(c:b=true):Calls prog 106 #[.bool b,vI a] w fun e d=>w=d∧e=.returned (.tuple #[]):=by
 subst c;go_enter func106,ntmps106;go_wp2
 go_end0
 exact ⟨rfl,rfl⟩
theorem bD (b:Bool)(a:Int)(w:World)(c:b=false):Calls prog 106 #[.bool b,vI a] w fun e d=>w=d∧e=pK a:=by
 subst c;go_enter func106,ntmps106;go_wp2;exact ⟨rfl,rfl,rfl⟩
theorem qO (neg:Bool)(a:Option Addr)(n b:Nat)(w:World)(c:n≤300) :
 CB 183 #[vN neg a n b] w fun e _=>e=.returned (vN neg a n b):=by
 go_enter func183,ntmps183
 go_wp2_with (go_at_call 106;refine (aC _ _ _ (by simp;try omega)).mono ?_;rintro e d ⟨rfl,rfl⟩)
 exact bodyPost_ret (v:=vN neg a n b) (by simp [results,results183,go_sem]) rfl ⟨(dJ _ _).alloc (by simp) _,rfl⟩
theorem FQ (v:Value)(xs:List Nat)(w:World)(h:Reads .u32 w v xs)(E:xs.length≤1000000) :
 CB 260 #[v] w fun e A=>∃ i,e=.returned i∧Reads .u32 A i xs:=by
 obtain ⟨a,l,rfl,C,D⟩:=h.form
 by_cases n:xs=[]
 ·subst n
  have h0:∀ (a:Addr) (w:World),(loadCellsFrom a 0 0 #[]).run prog w=.ok #[] w:=fun a w=>by simp [loadCellsFrom]
  cases a <;>
  ·go_enter func260,ntmps260
   go_wp2;go_ret;exact ⟨Qj _ _,_,rfl,Reads.nil _ _⟩
 ·obtain ⟨r,hi,g⟩:=Js.1 fV
  simp only [Prod.mk.injEq] at g;obtain ⟨o,p,q⟩:=g;obtain ⟨B,s,z,_,_,hr⟩:=h;cases z;obtain ⟨⟨b,off,rfl⟩,_⟩:=hr 0 (Zb.2 n)
  have c:∀ j u,(aF xs)[j]?=some u→w.cell? ((⟨b,off,none⟩:Addr).add j)=some u:=by
   intro j u m
   have x:j<xs.length:=by
    have:=(ZH.1 m).1;simpa [aF] using this
   have t:=(hr j x).2;rw [iY] at t;rw [JO,t];simp [aF,Qs x] at m ⊢;exact m
  have y:=Qa c;clear c hr n;go_enter func260,ntmps260
  go_wp2_with (at_builtin;go_loud (refine wpList_append_own _ rfl _ _ 22 rfl w.heap.size 128 r (.int .u32 0) 1 4 aG hi o p q rfl (by decide) _ _ _ rfl (ZU _ _ _ _) ⟨b,off,none⟩ xs.length l (aF xs) rfl (by simp [aF]) y.out (by simp [aF,Value.oneCell']) (by unfold maxLen;omega) (by omega) (Qb _) ?_);intro i w1 f d _)
  go_ret;refine ⟨(Qj _ _).grown d (Qb _) (fun k e=>by cases e),i,rfl,Reads.ou (by simpa [aF] using f)⟩
theorem ru (j k p:Value)(a b:List Nat)(w:World)(ha:Reads .u32 w j a)(i:Reads .u32 w k b)(f:Limbs a)(g:Limbs b)(na:a.length≤100000)(nb:b.length≤100000)(hs:min a.length b.length<80) :
 CB 246 #[j,k,p] w fun e l=>∃ v c,e=.returned v∧Reads .u32 l v c∧Canon c∧val c=val a*val b:=by
 obtain ⟨r,t,rfl,x,m⟩:=ha.form;obtain ⟨s,u,rfl,q,h⟩:=i.form;unfold maxLen at m h;go_enter func246,ntmps246
 go_wp2_with (go_at_call 247;refine (yH _ _ a b _ ha i f g na nb).mono ?_;rintro e l ⟨d,v,c,rfl,h1,n,o⟩)
 go_ret;exact ⟨d,v,c,rfl,h1,n,o⟩
structure aY (w:World) (va vb:Value) (xa xb:List Nat) (W:World):Prop where
 ra0:Reads .u32 w va xa
 rb0:Reads .u32 w vb xb
 below:bW w W
 size:w.heap.size+3≤W.heap.size
 res:∃ r0 a n c,W.heap[w.heap.size+2]?=some (.cells #[.bool r0,.slice a n c] 24 (0,0))
theorem aY.ra {w:World}{a c:Value}{b d:List Nat}{W:World}(h:aY w a c b d W):Reads .u32 W a b:=h.ra0.below h.below
theorem aY.rb {w:World}{c a:Value}{d b:List Nat}{W:World}(h:aY w c a d b W):Reads .u32 W a b:=h.rb0.below h.below
theorem aY.drew {w:World}{a b:Value}{c d:List Nat}{W:World}(h:aY w a b c d W):aY w a b c d W.drew:=⟨h.ra0,h.rb0,h.below.drew,h.size,h.res⟩
theorem aY.step {w:World}{f g:Value}{i j:List Nat}{W d:World}(h:aY w f g i j W)(b:bW W d):aY w f g i j d:=by
 obtain ⟨r0,a,n,c,hr⟩:=h.res;exact ⟨h.ra0,h.rb0,h.below.trans (b.mono (by have:=h.size;omega)),Qd h.size b.size,r0,a,n,c,(b.block _ (by have:=h.size;omega)).trans hr⟩
theorem aY.cells {w:World}{b d:Value}{f g:List Nat}{W:World}(h:aY w b d f g W):∃ r0 a n c,W.cell? ⟨w.heap.size+2,0,none⟩=some (.bool r0)∧W.cell? ⟨w.heap.size+2,1,none⟩=some (.slice a n c)∧W.frozen? ⟨w.heap.size+2,0,none⟩=false∧W.frozen? ⟨w.heap.size+2,1,none⟩=false:=by
 obtain ⟨r0,a,n,c,hr⟩:=h.res;exact ⟨r0,a,n,c,by simp only [World.cell?,hr];rfl,by simp only [World.cell?,hr];rfl,by simp only [World.frozen?,hr];rfl,by simp only [World.frozen?,hr];rfl⟩
theorem aY.store {w:World}{b d:Value}{f g:List Nat}{W:World}(h:aY w b d f g W)(x:Bool)(a:Option Addr)(n c:Nat):aY w b d f g ((W.setCell ⟨w.heap.size+2,0,none⟩ (.bool x)).setCell ⟨w.heap.size+2,1,none⟩ (.slice a n c)):=by
 obtain ⟨r0,i,n0,j,hr⟩:=h.res;refine ⟨h.ra0,h.rb0,(h.below.setCell (by simp) _).setCell (by simp) _,by simpa using h.size,x,a,n,c,?_⟩;have r1:af W (w.heap.size+2) 24 (lN r0 i n0 j):=hr;exact (r1.set 0 (.bool x)).set 1 (.slice a n c)
def Al (w:World)(na nb:Bool)(va vb:Value)(xa xb:List Nat)(W:World):Prop :=
 W.cell? ⟨w.heap.size,0,none⟩=some (.bool na)∧W.cell? ⟨w.heap.size,1,none⟩=some va∧W.cell? ⟨w.heap.size+1,0,none⟩=some (.bool nb)∧W.cell? ⟨w.heap.size+1,1,none⟩=some vb∧aY w va vb xa xb W
theorem gL {w:World}{na nb:Bool}{a b:Value}{c d:List Nat}(ha:Reads .u32 w a c)(g:Reads .u32 w b d) :
  Al w na nb a b c d (((w.alloc (.cells #[.bool na,a] 24)).alloc (.cells #[.bool nb,b] 24)).alloc (.cells #[vF,vZ] 24)):=by
 have f:bW w (((w.alloc (.cells #[.bool na,a] 24)).alloc (.cells #[.bool nb,b] 24)).alloc (.cells #[vF,vZ] 24)):=((dJ w _).alloc (by simp) _).alloc (by simp;omega) _;refine ⟨by go_simp,by go_simp,by go_simp,by go_simp,ha,g,f,by simp,false,none,0,0,?_⟩;have:=ZF ((w.alloc (.cells #[.bool na,a] 24)).alloc (.cells #[.bool nb,b] 24)) (.cells #[vF,vZ] 24);simpa using this
theorem eT {w W d:World}{na nb:Bool}{b c:Value}{i j:List Nat}(h1:W.cell? ⟨w.heap.size,0,none⟩=some (.bool na))(f:W.cell? ⟨w.heap.size,1,none⟩=some b)(g:W.cell? ⟨w.heap.size+1,0,none⟩=some (.bool nb))
  (h:W.cell? ⟨w.heap.size+1,1,none⟩=some c) (hr:aY w b c i j W) (a:bW W d):Al w na nb b c i j d :=
 ⟨(Jd (a.block _ (JE _ _ h1))).trans h1,(Jd (a.block _ (JE _ _ f))).trans f,(Jd (a.block _ (JE _ _ g))).trans g,
  (Jd (a.block _ (JE _ _ h))).trans h,hr.step a⟩
theorem gM {w W:World}{na nb:Bool}{d f:Value}{g h:List Nat}(h1:W.cell? ⟨w.heap.size,0,none⟩=some (.bool na))(i:W.cell? ⟨w.heap.size,1,none⟩=some d)(j:W.cell? ⟨w.heap.size+1,0,none⟩=some (.bool nb))
  (l:W.cell? ⟨w.heap.size+1,1,none⟩=some f) (hr:aY w d f g h W) (x:Bool) (a:Option Addr) (n c:Nat):Al w na nb d f g h ((W.setCell ⟨w.heap.size+2,0,none⟩ (.bool x)).setCell ⟨w.heap.size+2,1,none⟩ (.slice a n c)):=by
 have b:dF (fun k=>k=w.heap.size+2) W ((W.setCell ⟨w.heap.size+2,0,none⟩ (.bool x)).setCell ⟨w.heap.size+2,1,none⟩ (.slice a n c)):=((dF.refl (fun k=>k=w.heap.size+2) W).setCell (p:=⟨w.heap.size+2,0,none⟩) (.inl rfl) _).setCell (p:=⟨w.heap.size+2,1,none⟩) (.inl rfl) _;exact ⟨b.cell h1 (by simp),b.cell i (by simp),b.cell j (by simp),b.cell l (by simp),hr.store x a n c⟩
theorem bA {W:World}{b:Nat}{c a:Value}(g:W.cell? ⟨b,0,none⟩=some c)(h:W.cell? ⟨b,1,none⟩=some a)(x y:Value) :
  ((W.setCell ⟨b,0,none⟩ x).setCell ⟨b,1,none⟩ y).cell? ⟨b,0,none⟩=some x∧((W.setCell ⟨b,0,none⟩ x).setCell ⟨b,1,none⟩ y).cell? ⟨b,1,none⟩=some y:=by
 have d:(W.setCell ⟨b,0,none⟩ x).cell? ⟨b,0,none⟩=some x:=ZV _ _ _ g
 have f:(W.setCell ⟨b,0,none⟩ x).cell? ⟨b,1,none⟩=some a:=by rw [Jl _ _ _ _ (by simp)];exact h
 exact ⟨by rw [Jl _ _ _ _ (by simp)];exact d,ZV _ _ _ f⟩
theorem Reads.setOther {k:IntKind}{W:World}{v:Value}{xs:List Nat}(h:Reads k W v xs){p:Addr}{c:Value}(f:W.cell? p=some c)(l:∀ x,c≠.int k x)(u:Value):Reads k (W.setCell p u) v xs:=by
 obtain ⟨a,b,rfl,g,i,hr⟩:=h;refine ⟨a,b,rfl,g,i,fun j d=>⟨(hr j d).1,?_⟩⟩;rw [Jl _ _ _ _ (fun e=>by subst e;rw [(hr j d).2] at f;exact l _ (Option.some.inj f).symm)];exact (hr j d).2
theorem bf {W:World}{b:Nat}{v:Value}{xs:List Nat}{r0:Bool}{a:Option Addr}{n c:Nat}(h:Reads .u32 W v xs)(d:W.cell? ⟨b,0,none⟩=some (.bool r0))(f:W.cell? ⟨b,1,none⟩=some (.slice a n c))(x y:Value):Reads .u32 ((W.setCell ⟨b,0,none⟩ x).setCell ⟨b,1,none⟩ y) v xs:=by
 refine (h.setOther d (by simp) x).setOther (c:=.slice a n c) ?_ (by simp) y;rw [Jl _ _ _ _ (by simp)];exact f
end Go.Proofs.YtagjhmodblifbaaGreatDoor
namespace Go.Proofs.YtagjhmodblifbaaGreatDoor
open Go.Proofs.Tryz
open Go Go.RowKit Go.Shelf
attribute [local go_sem] Jc
theorem Lp (x y:Int)(w:World):Calls prog 193 #[.int .u32 x,.int .u32 y] w fun e a=>w=a∧e=.returned (vI (dS x y)):=by
 have h1:∀ z:Int,Calls prog 223 #[.int .u32 z] w fun e a=>w=a∧e=.returned vF:=fun z=>by
  go_enter func223,ntmps223;go_wp2;go_ret;exact ⟨rfl,by simp⟩
 have b:=Qa h1;clear h1;unfold dS
 rcases YU x y with h | h | h
 ·go_enter func193,ntmps193
  go_wp2_with (go_at_call 223;refine (b.out _).mono ?_;rintro e a ⟨rfl,rfl⟩)
  go_ret;exact ⟨rfl,rfl⟩
 ·subst h
  go_enter func193,ntmps193
  go_wp2_with (go_at_call 223;refine (b.out _).mono ?_;rintro e a ⟨rfl,rfl⟩)
  go_ret;exact ⟨rfl,by simp⟩
 ·go_enter func193,ntmps193
  go_wp2_with (go_at_call 223;refine (b.out _).mono ?_;rintro e a ⟨rfl,rfl⟩)
  go_ret;exact ⟨rfl,rfl⟩
theorem Lr (x y:Int)(w:World):Calls prog 191 #[vI x,vI y] w fun e a=>w=a∧e=.returned (vI (dS x y)):=by
 have h1:∀ z:Int,Calls prog 221 #[vI z] w fun e a=>w=a∧e=.returned vF:=fun z=>by
  go_enter func221,ntmps221;go_wp2;go_ret;exact ⟨rfl,by simp⟩
 have b:=Qa h1;clear h1;unfold dS
 rcases YU x y with h | h | h
 ·go_enter func191,ntmps191
  go_wp2_with (go_at_call 221;refine (b.out _).mono ?_;rintro e a ⟨rfl,rfl⟩)
  go_ret;exact ⟨rfl,rfl⟩
 ·subst h
  go_enter func191,ntmps191
  go_wp2_with (go_at_call 221;refine (b.out _).mono ?_;rintro e a ⟨rfl,rfl⟩)
  go_ret;exact ⟨rfl,by simp⟩
 ·go_enter func191,ntmps191
  go_wp2_with (go_at_call 221;refine (b.out _).mono ?_;rintro e a ⟨rfl,rfl⟩)
  go_ret;exact ⟨rfl,rfl⟩
theorem Ir (F:Fence)(n:Nat)(M:F.fn 222)(D:F.round=none)(Y:1≤n)(l r n0:Nat)(v:Value)(xs:List Nat)(S:Limbs xs)(hlen:xs.length≤1000000)
  (J H:List (dA xs.length)→World→Prop)
  (O:∀ b x W,J b W→b.length<xs.length→YieldAt F (n - 1) prog l (ow x) W fun e q =>
   (e=.returned (.bool true)∧J (b++[x]) q∧oh n0 r W q)∨(e=.returned vF∧H (b++[x]) q))
  (W:World) (ha:W.cell? ⟨r,0,none⟩=some v) (I:Reads .u32 W v xs)
  (E:∀ a n c,v=.slice (some a) n c→xs≠[]→a.block<n0) (h0:J [] W) :
  CallsIn F n prog 222 #[.func (.yield l) #[] #[],vP r] W fun e q=>(∃ v,e=.returned v) ∧
   ((∃ ys:List (dA xs.length),ys.map (·.1)=aW xs xs.length∧J ys q)∨(∃ b:List (dA xs.length),b.map (·.1) <+: aW xs xs.length∧H b q)):=by
 obtain ⟨a,z,rfl,V,C⟩:=I.form;unfold maxLen at C;refine callsIn_of_wp func222 rfl M ?_ D;simp only [ntmps222,Je,QE,QG,Nat.reduceAdd,Nat.reduceSub,Jf,Jg,Jh,Ji,QW,QL]
 gi_wp2
 gi_loopw [3] (fun i wr=>∃ (m:Nat) (b:List (dA xs.length)),m≤xs.length∧i=vI ((m:Int) - 1)∧b.map (·.1)=aW xs (xs.length - m)∧J b wr∧oh n0 r W wr)
  (fun i _=>(intOf i+1).toNat)
 case atStart=>exact ⟨xs.length,[],Qb _,rfl,by simp [aW],h0,oh.refl _ _ _⟩
 case round =>
  obtain ⟨m,b,X,hi,d,s,p⟩:=hrel
  have g:b.length=xs.length - m:=by have:=congrArg List.length d;simpa [lZ] using this
  have Q:wr.cell? ⟨r,0,none⟩=some (.slice a xs.length z):=p.cell.trans ha
  cases m with
  | zero =>
   rw [show ((0:Nat):Int) - 1=-1 from rfl] at hi;subst hi;clear g;have L:=Qa d;clear d
   gi_wp2
   go_end0
   exact ⟨⟨_,rfl⟩,.inl ⟨_,L.out,s⟩⟩
  | succ k =>
   rw [show ((k+1:Nat):Int) - 1=(k:Int) by omega] at hi;subst hi
   have o:k<xs.length:=by omega
   obtain ⟨x,h⟩:∃ x,xs[k]?.getD 0=x:=⟨_,rfl⟩
   have y:x<aj:=by rw [← h];exact aK S k
   obtain ⟨fn,tmps,assign,body,T,N⟩:=O b ⟨(k,x),o,y⟩ wr s (by omega)
   have f:(b++[(⟨(k,x),o,y⟩:dA xs.length)]).map (·.1)=aW xs (xs.length - k):=by
    rw [JJ,d,show xs.length - k=(xs.length - (k+1))+1 by omega,jE,show xs.length - 1 - (xs.length - (k+1))=k by omega,h];rfl
   simp only [ow] at T;have u:=I.uz E p.1;clear d g;have G:=Qa f;clear f;have R:=u.index aG bZ k .i64;have j:=u.cell k o;rw [h] at j;clear h
   gi_wp2
   refine N.mono ?_;rintro e U (⟨rfl,A,B⟩ | ⟨rfl,t⟩)
   ·gi_wp2
    go_roundw
    case rel=>exact ⟨k,_,by omega,rfl,G.out,A,p.trans B⟩
    case measure=>simp [intOf]
   ·gi_wp2
    refine bodyPost_ret (results_none rfl _ _ _) rfl ?_;exact ⟨⟨_,rfl⟩,.inr ⟨_,by rw [G.out];exact pQ xs (by omega),t⟩⟩
theorem BH (v:Value)(w:World)(c:∃ a n b,v=.slice a n b) :
  Calls prog 192 #[v] w fun e d =>
   e=.returned (.func (.func 222) #[] #[vP w.heap.size]) ∧
   w.alloc (.cells #[v] 22)=d:=by
 obtain ⟨a,n,b,rfl⟩:=c;go_enter func192,ntmps192;go_wp2;go_ret;exact ⟨rfl,rfl⟩
theorem Du (F:Fence)(n:Nat)(o:F.fn 222)(i:F.round=none)(r:1≤n)(b n0:Nat)(v:Value)(xs:List Nat)(t:Limbs xs)(hlen:xs.length≤1000000)
  (w:World) (g:b<w.heap.size) (h:n0≤w.heap.size) (ha:w.cell? ⟨b,0,none⟩=some v) (s:Reads .u32 w v xs)
  (d:∀ a n c,v=.slice (some a) n c→xs≠[]→a.block<n0) :
  SeqStopsK F n prog 222 #[vP b] (ow (n:=xs.length)) (oh n0 b)
   (fun ys=>ys.map (·.1)=aW xs xs.length) (fun j=>j.map (·.1) <+: aW xs xs.length) xs.length w:=fun l J m W k _ _ q h0=>by
 have f:=k.mono h;exact Ir F n o i r l b n0 v xs t hlen J m q W ((k.cell (p:=⟨b,0,none⟩) g).trans ha) (s.uz d f) d h0
theorem xV {g:Operand}{o p:Tmp}{assign body:Code}{Q:Exit→Act→World→Prop}{a:Act}{w:World}(r s j n0:Nat)(v:Value)(xs:List Nat)
  (z:a.eval g=.func (.func 222) #[] #[vP j])
  (B:Limbs xs) (hlen:xs.length≤1000000) (k:j<w.heap.size) (m:n0≤w.heap.size) (ha:w.cell? ⟨j,0,none⟩=some v) (A:Reads .u32 w v xs)
  (u:∀ a n c,v=.slice (some a) n c→xs≠[]→a.block<n0)
  (I:List (dA xs.length)→World→Prop) (q:Code→List (dA xs.length)→World→Prop) (y:OwnFrom w.heap.size I) (t:∀ c,OwnFrom w.heap.size (q c)) (h0:I [] w)
  (d:∀ (l:Nat) (x:dA xs.length) (W:World) (K:Act→World→Prop),K (cZ a o p r s (vI (x.1.1:Int)) (.int .u32 (x.1.2:Int))) W →
   assign.wpIn (Fence.wide.inRound l) 7 prog (Exit.then K (fun _ _ _=>False)) { tmps:=(a.tmps.setIfInBounds o (vI (x.1.1:Int))).setIfInBounds p (.int .u32 (x.1.2:Int)),defers:=[] } W)
  (f:∀ (l:Nat) (b:List (dA xs.length)) (x:dA xs.length) (W:World),I b W→b.length<xs.length→body.wpIn (Fence.wide.inRound l) 7 prog (ownPostG w.heap.size (oh n0 j) I q (b++[x]) W) (cZ a o p r s (vI (x.1.1:Int)) (.int .u32 (x.1.2:Int))) W)
  (h:∀ (D:Nat) (ys:List (dA xs.length)) (W:World),w.heap.size≤D→ys.map (·.1)=aW xs xs.length→I ys W→W.heap[D]?=some (.deferred (some []))→Q .normal { a with defers:={ target:=.collected D,args:=#[] }::a.defers } W)
  (i:∀ (D:Nat) (c:Code) (b:List (dA xs.length)) (W:World),w.heap.size≤D→b.map (·.1) <+: aW xs xs.length→q c b W→W.heap[D]?=some (.deferred (some []))→c.wpIn Fence.wide 9 prog Q { a with defers:={ target:=.collected D,args:=#[] }::a.defers } W) :
  (Code.rangeFunc g #[o,p] assign body).wpIn Fence.wide 9 prog Q a w :=
 wpIn_rangeFunc_ownG (n:=9) (F:=Fence.wide) rfl (by omega) (gf:=222) (lb:=#[vP j]) z trivial (enters_of func222 (by kernel_rfl) rfl)
  (Du Fence.wide (9 - 1) trivial rfl (by omega) j n0 v xs B hlen w k m ha A u) oh.trans (oh.book m k) (Qj _ _) (fun _=>rfl) I q y t h0
  (fun x=>cZ a o p r s (vI (x.1.1:Int)) (.int .u32 (x.1.2:Int))) (fun l x W K hK=>by simpa [ow] using d l x W K hK) f h i
end Go.Proofs.YtagjhmodblifbaaGreatDoor
namespace Go.Proofs.YtagjhmodblifbaaGreatDoor
open Go.Proofs.Tryz
open Go Go.RowKit Go.Shelf
attribute [local go_sem] Jc
theorem Dv (i j:Value)(a b:List Nat)(w:World)(ha:Reads .u32 w i a)(m:Reads .u32 w j b)(g:Canon a)(c:Canon b)(f:a.length≠b.length) :
 CB 150 #[i,j] w fun e _=>e=.returned (vI (dS (val a:Int) (val b:Int))):=by
 have h:=EX g c f;have k:=Qa h;clear h;obtain ⟨o,q,rfl,g,l⟩:=ha.form;obtain ⟨p,r,rfl,c,d⟩:=m.form;unfold maxLen at l d
 have n:((a.length:Int) != (b.length:Int))=true:=by rw [bne_iff_ne];omega
 go_enter func150,ntmps150
 go_wp2_with (go_at_call 191;refine (Lr _ _ _).mono ?_;rintro e s ⟨rfl,rfl⟩)
 refine bodyPost_ret (v:=vI (dS (a.length:Int) (b.length:Int))) (by simp [results,results150,go_sem]) rfl ⟨(dJ _ _).alloc (by simp) _,by rw [k.out]⟩
def Ij (w:World)(va vb:Value)(xb:List Nat)(ps:List (Nat × Nat))(W:World):Prop :=
 (∀ p ∈ ps,p.2=xb[p.1]?.getD 0)∧(∃ r,Boxed W (w.heap.size+1) 3 r)∧Boxed W (w.heap.size+2) 22 va∧Boxed W w.heap.size 22 vb∧bW w W
def EZ (w:World)(xb:List Nat)(c:Code)(ps:List (Nat × Nat))(W:World):Prop :=
 c=.ret∧(∃ pre' p,ps=pre'++[p]∧(∀ p ∈ pre',p.2=xb[p.1]?.getD 0)∧p.2≠xb[p.1]?.getD 0∧Boxed W (w.heap.size+1) 3 (vI (dS (p.2:Int) ((xb[p.1]?.getD 0:Nat):Int))))∧bW w W
theorem Dw (B:Nat){w:World}(a:w.heap.size≤B)(b c:Value)(d:List Nat){α:Type}(f:α→List (Nat × Nat)):OwnFrom B (fun s W=>Ij w b c d (f s) W) :=
 (ownFrom_pure _ _).and ((iM fun _=>aB _ _ _).and ((aB _ _ _).and ((aB _ _ _).and (ownFrom_below (Qb _) a))))
theorem Cc (B:Nat){w:World}(a:w.heap.size≤B)(b:List Nat)(c:Code){α:Type}(f:α→List (Nat × Nat)):OwnFrom B (fun s W=>EZ w b c (f s) W) :=
 (ownFrom_pure _ _).and ((iM fun _=>iM fun _=>(ownFrom_pure _ _).and ((ownFrom_pure _ _).and ((ownFrom_pure _ _).and (aB _ _ _)))).and (ownFrom_below (Qb _) a))
theorem Dx (va vb:Value)(a h:List Nat)(w:World)(ha:Reads .u32 w va a)(Q:Reads .u32 w vb h)(fA:Canon a)(Y:Canon h)(na:a.length≤1000000)(R:a.length=h.length) :
 CB 150 #[va,vb] w fun e _=>e=.returned (vI (dS (val a:Int) (val h:Int))):=by
 have I:=fA.1;have a3:=Y.1;obtain ⟨aa,ca,rfl,a5,gy⟩:=ha.form;obtain ⟨ab,cb,rfl,a6,a4⟩:=Q.form;unfold maxLen at gy a4;rw [← R] at Q;have t:=Qa R;rw [← R];clear R
 have a7:((a.length:Int) != (a.length:Int))=false:=by simp
 refine (callsIn_wide (n:=9)).1 ?_;refine callsIn_of_wp_marks func150 rfl trivial ?_ rfl;simp only [ntmps150,Je,QE,QG,Nat.reduceAdd,Nat.reduceSub,Jf,Jg,Jh,Ji,QW,QL]
 gi_wp2_with (refine ⟨trivial,?_⟩;gi_at_call 192;refine (callsIn_wide.2 (BH _ _ ⟨_,_,_,rfl⟩)).mono ?_;rintro e w' ⟨rfl,rfl⟩)
 have b0:bW w w:=Qj _ _
 refine xV 5 6 (w.heap.size+2) w.heap.size (.slice aa a.length ca) a (by exact rfl) I (by omega) (by simp) (by simp;omega) ?m2 (ha.below ?m3) ha.lt
  (fun b W=>Ij w (.slice aa a.length ca) (.slice ab a.length cb) h (b.map (·.1)) W)
  (fun c b W=>EZ w h c (b.map (·.1)) W)
  (Dw _ ?mB _ _ _ _) (fun c=>Cc _ ?mB2 _ _ _) ?start ?assign ?body ?done ?stop
 case mB=>simp;omega
 case mB2=>simp;omega
 case m2=>go_simp
 case m3=>exact ((b0.alloc (Qb _) _).alloc (by simp) _).alloc (by simp;omega) _
 case start =>
  refine ⟨by simp,⟨vI 0,?_⟩,?_,?_,?_⟩
  ·exact Boxed.at ((Qi _ _ _).alloc _) (by simp)
  ·exact Boxed.at (Qi _ _ _) (by simp)
  ·exact ((Qi _ _ _).alloc _).alloc _
  ·exact ((b0.alloc (Qb _) _).alloc (by simp) _).alloc (by simp;omega) _
 case assign =>
  intro l x W K hK
  gi_wp2
  exact hK
 case body =>
  rintro l b x W ⟨d,⟨r,f⟩,bs,V,j⟩ af;have S:=j.size;obtain ⟨⟨i,y⟩,a0,a1⟩:=x
  have q:(b++[(⟨(i,y),a0,a1⟩:dA a.length)]).map (·.1)=b.map (·.1)++[(i,y)]:=by simp
  dsimp only at *;have HM:=Qa q;have HP:=Qa d;clear q d
  have a2:i<h.length:=by have:=t.out;omega
  have A:=(Q.below j).cell i a2;have ad:=Q.index aG bZ i .i64
  obtain ⟨z,hz⟩:∃ z,h[i]?.getD 0=z:=⟨_,rfl⟩
  rw [hz] at A;have T:=Qa hz;clear hz;have X:=f.cell;have Z:=f.frozen;have a9:=V.cell
  by_cases O:y=z
  ·subst O
   simp only [cZ]
   gi_wp2_with fail
   refine ⟨KeepsFrom.refl _ _,oh.refl _ _ _,?_⟩;refine ⟨?_,⟨r,f⟩,bs,V,j⟩;rw [HM.out];intro p hp
   rcases ZB.1 hp with h1 | h1
   ·exact HP.out p h1
   ·have:p=(i,y):=by simpa using h1
    rw [this];exact T.out.symm
  ·have a8:((y:Int) != (z:Int))=true:=by rw [bne_iff_ne];omega
   simp only [cZ]
   gi_wp2_with (refine ⟨trivial,?_⟩;gi_at_call 193;refine (CallsIn.inRound l (callsIn_wide.2 (Lp _ _ _))).mono ?_;rintro e w' ⟨rfl,rfl⟩)
   have F:dF (fun k=>k=w.heap.size+1) W (W.setCell ⟨w.heap.size+1,0,none⟩ (vI (dS (y:Int) (z:Int)))):=(dF.refl (fun k=>k=w.heap.size+1) W).setCell (p:=⟨w.heap.size+1,0,none⟩) (.inl rfl) _;refine ⟨F.fH _ (by rintro k rfl;exact Boxed.isCells f),rfl,⟨b.map (·.1),(i,y),HM.out,HP.out,?_,?_⟩,j.trans (F.below (by rintro k rfl;omega) S)⟩
   ·rw [T.out];exact O
   ·rw [T.out];exact QO _ f
 case done =>
  rintro D ys W C N ⟨d,⟨r,f⟩,bs,V,j⟩ hK;rw [N] at d
  have H:a=h:=by
   apply Yo t.out;intro i h1 E;have:=d (a.length - 1 - (a.length - 1 - i),a[a.length - 1 - (a.length - 1 - i)]?.getD 0) (Qw.2 ⟨a.length - 1 - i,by simp;omega,rfl⟩);rw [show a.length - 1 - (a.length - 1 - i)=i by omega] at this;simpa [Qs h1,Qs E] using this
  have S:=j.size;have X:=f.cell;have Z:=f.frozen;have HE:=Qa H;clear H d N
  gi_wp2
  have F:dF (fun k=>k=w.heap.size+1) W (W.setCell ⟨w.heap.size+1,0,none⟩ (vI 0)):=(dF.refl (fun k=>k=w.heap.size+1) W).setCell (p:=⟨w.heap.size+1,0,none⟩) (.inl rfl) _;have U:=QO (vI 0) f;have G:(W.setCell ⟨w.heap.size+1,0,none⟩ (vI 0)).heap[D]?=some (.deferred (some [])):=(F.block D (QT.1 hK).1 (by simp at C;omega)).trans hK;refine ⟨by simp,.inl ⟨_,_,rfl,run_takeDeferred G,?_⟩⟩
  have u:=U.kept (grownBy_putObj' _ D (.deferred none)) (by simp at C ⊢;omega);have v:=u.cell;refine ⟨vI 0,by simp [results,results150,go_sem,v],(j.trans (F.below (by rintro k rfl;omega) S)).trans (belowK_b (w:=w) (Qb _) _ D _ _ (by simp at C;omega) G rfl rfl),?_⟩;rw [← HE.out,vL]
 case stop =>
  rintro D c b W C B ⟨rfl,⟨g,p,m,o,J,f⟩,j⟩ hK;have S:=j.size
  obtain ⟨k,hk,L⟩:∃ k,k<a.length∧b.map (·.1)=aW a k++[(a.length - 1 - k,a[a.length - 1 - k]?.getD 0)]:=by
   have hlen:(b.map (·.1)).length=g.length+1:=by rw [m];simp
   have ae:(b.map (·.1)).length≤a.length:=by have:=B.length_le;rwa [lZ] at this
   refine ⟨g.length,by omega,?_⟩;rw [← jE];have h1:=ZI.1 B;rw [hlen] at h1;rw [h1];have E:=ZI.1 (pQ a (show g.length+1≤a.length by omega));rw [lZ] at E;exact E.symm
  rw [L] at m;obtain ⟨e1,e2⟩:=List.append_inj' m rfl
  obtain rfl:(a.length - 1 - k,a[a.length - 1 - k]?.getD 0)=p:=by simpa using e2
  have M:∀ i,a.length - 1 - k<i→i<a.length→a[i]?.getD 0=h[i]?.getD 0:=by
   intro i h1 E;have:=o (a.length - 1 - (a.length - 1 - i),a[a.length - 1 - (a.length - 1 - i)]?.getD 0) (by rw [← e1];exact Qw.2 ⟨a.length - 1 - i,by simp;omega,rfl⟩)
   rwa [show a.length - 1 - (a.length - 1 - i)=i by omega] at this
  have s:=Ii I a3 t.out (a.length - 1 - k) (by omega) M J;have HV:=Qa s;clear s M o J L m e1 e2 B
  gi_wp2
  refine ⟨by simp,.inl ⟨_,_,rfl,run_takeDeferred hK,?_⟩⟩;have u:=f.kept (grownBy_putObj' _ D (.deferred none)) (by simp at C ⊢;omega);have v:=u.cell;refine ⟨vI (dS ((a[a.length - 1 - k]?.getD 0:Nat):Int) ((h[a.length - 1 - k]?.getD 0:Nat):Int)),by simp [results,results150,go_sem,v],j.trans (belowK_b (w:=w) (Qb _) _ D _ _ (by simp at C;omega) hK rfl rfl),?_⟩;rw [HV.out]
theorem gI (d f:Value)(a b:List Nat)(w:World)(ha:Reads .u32 w d a)(h:Reads .u32 w f b)(g:Canon a)(c:Canon b)(na:a.length≤1000000) :
 CB 150 #[d,f] w fun e _=>e=.returned (vI (dS (val a:Int) (val b:Int))):=by
 by_cases i:a.length=b.length
 ·exact Dx d f a b w ha h g c na i
 ·exact Dv d f a b w ha h g c i
end Go.Proofs.YtagjhmodblifbaaGreatDoor
namespace Go.Proofs.YtagjhmodblifbaaGreatDoor
open Go.Proofs.Tryz
open Go Go.RowKit Go.Shelf
attribute [local go_sem] Jc
theorem xW {d y c:Nat}(f:d<4294967296)(g:y<4294967296)(b:c≤1){T:Int}(a:IntKind.u64.wrap (IntKind.u64.wrap (IntKind.u64.wrap (d:Int) - IntKind.u64.wrap (y:Int)) - (c:Int))=T) :
  Value.int .u32 (((d+aj - (y+c)) % aj:Nat):Int)=.int .u32 (IntKind.u32.wrap T)∧Value.int .u64 ((1 - (d+aj - (y+c)) / aj:Nat):Int)=.int .u64 (T / 9223372036854775808):=by
 subst a;simp only [Qk,Jj];unfold aj;exact ⟨congrArg _ (by omega),congrArg _ (by omega)⟩
theorem pI (va vb:Value)(a k:List Nat)(w:World)(ha:Reads .u32 w va a)(U:Reads .u32 w vb k)(G:Limbs a)(H:Limbs k)(na:a.length≤100000)(Y:k.length≤a.length)(I:val k≤val a) :
 CB 186 #[va,vb] w fun e w'=>∃ v S,e=.returned v∧Reads .u32 w' v S∧Canon S∧val S=val a - val k:=by
 have m:=sj G H I Y;have HE:=Qa m;clear m I;obtain ⟨M,Q,rfl,fA,gy⟩:=ha.form;obtain ⟨N,R,rfl,am,Z⟩:=U.form;unfold maxLen at gy Z;obtain ⟨a9,hi,L⟩:=Js.1 fV;simp only [Prod.mk.injEq] at L;obtain ⟨a6,a7,a8⟩:=L;refine (callsIn_wide (n:=9)).1 ?_;refine callsIn_of_wp_marks func186 rfl trivial ?_ rfl
 simp only [ntmps186,Je,QE,QG,Nat.reduceAdd,Nat.reduceSub,Jf,Jg,Jh,Ji,QW,QL]
 have a0:∀ w,(Instr.makeSlice 22 (vI 0) (vI (a.length:Int))).run prog w=.ok (.slice (some ⟨w.heap.size,0,none⟩) 0 a.length) (w.alloc (.cells (zeros a.length) 128)):=fun w=>by
  simpa using fw 0 (a.length:Int) (by omega) (by omega) (by omega) w
 gi_wp2_with (refine ⟨trivial,?_⟩;gi_at_call 218;refine (callsIn_wide.2 (jH _ _ _ ⟨_,_,_,rfl⟩)).mono ?_;rintro e w' ⟨rfl,rfl⟩)
 clear a0;have r0:=lI (w.alloc (.cells #[.slice M a.length Q] 22)) w.heap.size a.length (by simp) (by omega);have r1:=(((r0.alloc (.cells #[.slice (some ⟨w.heap.size+1,0,none⟩) 0 a.length] 22)).alloc (.cells #[.int .u64 0] 138)).alloc (.cells #[.slice N k.length R] 22)).alloc (.cells #[vI (a.length:Int)] 3)
 rw [show (w.alloc (.cells #[.slice M a.length Q] 22)).heap.size=w.heap.size+1 by simp] at r1;clear r0;have b0:bW w w:=Qj _ _
 refine iE 7 8 (w.heap.size+5) (w.heap.size+4) w.heap.size a.length (.slice N k.length R) k (by exact rfl) H (by omega) (by simp) (by simp) (by simp;omega) ?m1 ?m2 (U.below ?m3) U.lt
  (fun b W=>∃ v,Boxed W (w.heap.size+2) 22 v∧W.ownsRow w.heap.size 128 1 v b.length (aF (dw a (b.map (·.1))).1)∧Boxed W (w.heap.size+3) 138 (.int .u64 ((dw a (b.map (·.1))).2:Int)) ∧
   Boxed W (w.heap.size+4) 22 (.slice N k.length R)∧Boxed W w.heap.size 22 (.slice M a.length Q)∧bW w W)
  (fun _ _ _=>False)
  (iM fun v=>(aB _ _ _).and ((mV _ _ _ _ _ _).and ((aB _ _ _).and ((aB _ _ _).and ((aB _ _ _).and (ownFrom_below (Qb _) ?mB))))))
  (fun _ _ _ _ _ h _ _=>h.elim) ?start ?assign ?body ?done ?stop
 case mB=>simp;omega
 case m1=>go_simp
 case m2=>go_simp
 case m3=>exact (((((b0.alloc (Qb _) _).alloc (by simp) _).alloc (by simp;omega) _).alloc (by simp;omega) _).alloc (by simp;omega) _).alloc (by simp;omega) _
 case start =>
  refine ⟨_,?_,by simpa [dw,aF] using r1,?_,?_,?_,?_⟩
  ·exact Boxed.at ((((Qi _ _ _).alloc _).alloc _).alloc _) (by simp)
  ·exact Boxed.at (((Qi _ _ _).alloc _).alloc _) (by simp)
  ·exact Boxed.at ((Qi _ _ _).alloc _) (by simp)
  ·exact (((((Qi _ _ _).alloc _).alloc _).alloc _).alloc _).alloc _
  ·exact (((((b0.alloc (Qb _) _).alloc (by simp) _).alloc (by simp;omega) _).alloc (by simp;omega) _).alloc (by simp;omega) _).alloc (by simp;omega) _
 case assign =>
  intro l x W K hK
  gi_wp2
  exact hK
 case body =>
  rintro l b x W ⟨v,A,z,u,bs,O,B⟩ aq;simp only [cZ]
  gi_wp2
  have sI:=B.size;obtain ⟨⟨i,y⟩,F,q⟩:=x;have E:=(il a (b.map (·.1))).2;have f:=jD a (b.map (·.1)) (i,y)
  have o:(b++[(⟨(i,y),F,q⟩:dA a.length)]).map (·.1)=b.map (·.1)++[(i,y)]:=by simp
  have hd:=aK G i;dsimp only at *;have X:=(ha.below B).cell i F;generalize a3:dw a (b.map (·.1))=st at *;obtain ⟨r,c⟩:=st;simp only [nN] at f;dsimp only at *;generalize a[i]?.getD 0=d at *;clear a3;have HN:=Qa f;have HM:=Qa o;clear f o;unfold aj at q hd;have ap:=ha.index aG bZ i .i64;have ak:=u.cell;have an:=u.frozen;have al:=O.cell;have V:=A.cell
  have ao:=A.frozen;refine gH (.inr ⟨_,rfl⟩) 10 (by kernel_rfl) (by kernel_rfl) ?_;simp only [JA,JB,JC,QN]
  repeat still_step
  refine wpStill_nil ?_;change wpListIn _ _ _ _ _ _ _ W.drew;generalize hT:IntKind.u64.wrap (IntKind.u64.wrap (IntKind.u64.wrap (d:Int) - IntKind.u64.wrap (y:Int)) - (c:Int))=T;have HT:=Qa hT;clear hT;have s:=(z.alloc (.cells #[.int .u32 (IntKind.u32.wrap T)] 128)).drew
  gi_wp2_with (gi_at_builtin;refine wpListIn_append_own _ rfl _ _ 22 rfl w.heap.size 128 a9 (.int .u32 0) 1 4 aG hi a6 a7 a8 rfl (by decide) _ _ _ rfl s ⟨W.heap.size,0,none⟩ 1 1 [.int .u32 (IntKind.u32.wrap T)] rfl rfl (mE _ _ _ _ (by simp)) (by simp [Value.oneCell']) (by unfold maxLen;omega) (by omega) (by simp;omega) ?_;intro v' w1 g p _;obtain ⟨g',ad,rfl⟩:=ownsRow_succ g;have C:=tC (by omega) (Qb _) (by omega) (by omega) sI (by decide) (by decide) A u z (((dF.refl _ W).alloc (.cells #[.int .u32 (IntKind.u32.wrap T)] 128)).drew) (Boxed.drew (Zp u _)) p g;have ae:=C.boxC.cell;have af:=C.boxR.cell;have ag:=C.boxC.frozen;have ai:=C.boxR.frozen)
  obtain ⟨a4,a5⟩:=xW hd q E HT.out;obtain ⟨f1,f2,f3,f4,f5,f6⟩:=C.fin (.int .u64 (T / 9223372036854775808));have f7:=f6 _ _ _ (.inl (by decide)) (by omega) (by omega) bs;refine ⟨f5 _,oh.boxed f4 bs f7,_,f1,?_,?_,f7,f6 _ _ _ (.inl (by decide)) (by omega) (by omega) O,B.trans f4⟩
  ·rw [HM.out,HN.out,jA,a4,QX]
   exact f3
  ·rw [HM.out,HN.out,a5]
   exact f2
 case done =>
  rintro D ys W hD t ⟨v,A,z,u,bs,O,B⟩ hK;have J:=(il a (ah k a.length)).1
  have j:ys.length=a.length:=by have:=congrArg List.length t;simpa [bR] using this
  rw [t] at z;rw [j] at z;clear t j u;generalize dw a (ah k a.length)=st at *;obtain ⟨r,c⟩:=st;dsimp only at *;have V:=A.cell;have a2:Reads .u32 W v r:=Reads.ou z
  gi_wp2_with (refine ⟨trivial,?_⟩;gi_at_call 188;refine (callsIn_wide.2 (jf _ _ _ a2)).mono ?_;rintro e w' ⟨rfl,v3,rfl,a1⟩)
  refine ⟨by simp,.inl ⟨_,_,rfl,run_takeDeferred hK,?_⟩⟩;refine ⟨_,results_tmp rfl _ _ _,B.trans (belowK_b (w:=w) (Qb _) W D _ _ (by simp at hD;omega) hK rfl rfl),v3,_,rfl,a1.putObj hK rfl _,dL J,?_⟩;rw [dC,HE.out]
 case stop =>
  rintro D c b W _ _ h _;exact h.elim
end Go.Proofs.YtagjhmodblifbaaGreatDoor
namespace Go.Proofs.YtagjhmodblifbaaGreatDoor
open Go.Proofs.Tryz
open Go Go.RowKit Go.Shelf
theorem bE {xs ys:List Nat}(a:Canon xs)(b:Canon ys)(h:val ys≤val xs):ys.length≤xs.length:=by
 rcases QK xs.length ys.length with hl | hl
 ·have h1:=fu a.1
  have c:=jG b (by intro e;subst e;simp at hl);have d:aj^xs.length≤aj^(ys.length - 1):=Ql (by decide) (by omega);omega
 ·exact hl
theorem Iu (na:Bool)(t u:Value)(c d:List Nat)(w:World)(ha:Reads .u32 w t c)(q:Reads .u32 w u d)(j:Limbs c)(k:Limbs d)(la:c.length≤100000)(lb:d.length≤100000) :
 CB 141 #[.agg #[.bool na,t],.agg #[.bool na,u]] w fun e x=>∃ v a,e=.returned (.agg #[.bool (na&&decide (0<a.length)),v])∧Reads .u32 x v a∧Canon a∧val a=val c+val d:=by
 have h0:=gL (na:=na) (nb:=na) ha q;obtain ⟨l,n,rfl,J,L⟩:=ha.form;obtain ⟨m,o,rfl,C,F⟩:=q.form;have f:=Qa h0;clear h0;go_enter func141,ntmps141
 go_wp2_with fail
 go_region_held3 (fun W=>W.cell? ⟨w.heap.size,0,none⟩=some (.bool na)∧W.cell? ⟨w.heap.size,1,none⟩=some (.slice l c.length n)∧W.cell? ⟨w.heap.size+1,0,none⟩=some (.bool na)∧W.cell? ⟨w.heap.size+1,1,none⟩=some (.slice m d.length o)∧aY w (.slice l c.length n) (.slice m d.length o) c d W)
  (first | exact ⟨f.out.1,f.out.2.1,f.out.2.2.1,f.out.2.2.2.1,f.out.2.2.2.2.drew⟩ | (go_split_ands;exact eT (by assumption) (by assumption) (by assumption) (by assumption) (by assumption) (by assumption)) | (go_split_ands;exact gM (by assumption) (by assumption) (by assumption) (by assumption) (by assumption) _ _ _ _))
  (first | (go_at_call 185;go_split_ands;refine (nY _ _ c d _ (aY.ra (by assumption)) (aY.rb (by assumption)) j k la lb).mono ?_;rintro e x ⟨A,v,a,rfl,h1,y,z⟩;obtain ⟨g,h,rfl,B,E⟩:=h1.form) | (go_at_call 184;go_split_ands;refine (dK _ _ _ _ _).mono ?_;rintro e I ⟨p,rfl⟩;obtain ⟨O,Q,R,S,r,s,M,N⟩:=aY.cells (aY.step (by assumption) p)))
 obtain ⟨G,H⟩:=bA (b:=w.heap.size+1+1) r s (.bool (na&&decide (0<a.length))) (.slice g a.length h);have D:=bf (b:=w.heap.size+1+1) (h1.below p) r s (.bool (na&&decide (0<a.length))) (.slice g a.length h);rename_i i;replace i:=i.2.2.2.2.below;go_wp2
 refine bodyPost_ret (v:=vN (na&&decide (0<a.length)) g a.length h) (by simp [results,results141,go_sem,loadCellsFrom,G,H]) rfl ⟨i,_,a,?_,D,y,z⟩;rfl
theorem MN (na nb:Bool)(A B:Value)(a c:List Nat)(w:World)(ha:Reads .u32 w A a)(x:Reads .u32 w B c)(o:Limbs a)(p:Limbs c)(la:a.length≤100000)(_lb:c.length≤100000)(h:Canon a)(i:Canon c)(O:na≠nb)(j:val c≤val a) :
 CB 141 #[.agg #[.bool na,A],.agg #[.bool nb,B]] w fun e C=>∃ v d,e=.returned (.agg #[.bool (na&&decide (0<d.length)),v])∧Reads .u32 C v d∧Canon d∧val d=val a - val c:=by
 have h0:=gL (na:=na) (nb:=nb) ha x;obtain ⟨q,s,rfl,T,U⟩:=ha.form;obtain ⟨r,t,rfl,I,N⟩:=x.form;have f:=Qa h0;clear h0;have L:=bE h i j
 have hi:(0:Int)≤dS (val a) (val c):=by unfold dS;split <;> (try split) <;> omega
 obtain rfl:nb=!na:=by cases na <;> cases nb <;> first | rfl | exact absurd rfl O
 generalize n:dS (val a) (val c)=cv at hi;go_enter func141,ntmps141
 go_wp2_with (go_at_call 150;go_loud (refine (gI _ _ a c _ f.out.2.2.2.2.ra f.out.2.2.2.2.rb h i (by omega)).mono ?_;rintro e w1 ⟨D,rfl⟩;rw [n];have g:=Qa (eT f.out.1 f.out.2.1 f.out.2.2.1 f.out.2.2.2.1 f.out.2.2.2.2 D)))
 go_region_held3 (fun W=>W.cell? ⟨w.heap.size,0,none⟩=some (.bool na)∧W.cell? ⟨w.heap.size,1,none⟩=some (.slice q a.length s)∧W.cell? ⟨w.heap.size+1,0,none⟩=some (.bool !na)∧W.cell? ⟨w.heap.size+1,1,none⟩=some (.slice r c.length t)∧aY w (.slice q a.length s) (.slice r c.length t) a c W)
  (first | exact ⟨g.out.1,g.out.2.1,g.out.2.2.1,g.out.2.2.2.1,g.out.2.2.2.2.drew⟩ | (go_split_ands;exact eT (by assumption) (by assumption) (by assumption) (by assumption) (by assumption) (by assumption)) | (go_split_ands;exact gM (by assumption) (by assumption) (by assumption) (by assumption) (by assumption) _ _ _ _))
  (first | (go_at_call 186;go_split_ands;refine (pI _ _ a c _ (aY.ra (by assumption)) (aY.rb (by assumption)) o p la L j).mono ?_;rintro e C ⟨G,v,d,rfl,h1,E,F⟩;obtain ⟨k,l,rfl,H,M⟩:=h1.form) | (go_at_call 184;go_split_ands;refine (dK _ _ _ _ _).mono ?_;rintro e S ⟨u,rfl⟩;obtain ⟨Y,Z,u2,u3,y,z,V,X⟩:=aY.cells (aY.step (by assumption) u)))
 obtain ⟨Q,R⟩:=bA (b:=w.heap.size+1+1) y z (.bool (na&&decide (0<d.length))) (.slice k d.length l);have J:=bf (b:=w.heap.size+1+1) (h1.below u) y z (.bool (na&&decide (0<d.length))) (.slice k d.length l);rename_i m;replace m:=m.2.2.2.2.below;go_wp2
 refine bodyPost_ret (v:=vN (na&&decide (0<d.length)) k d.length l) (by simp [results,results141,go_sem,loadCellsFrom,Q,R]) rfl ⟨m,_,d,?_,J,E,F⟩;rfl
theorem sum_lt (na nb:Bool)(B C:Value)(a c:List Nat)(w:World)(ha:Reads .u32 w B a)(y:Reads .u32 w C c)(o:Limbs a)(p:Limbs c)(la:a.length≤100000)(lb:c.length≤100000)(h:Canon a)(i:Canon c)(Q:na≠nb)(q:val a<val c) :
 CB 141 #[.agg #[.bool na,B],.agg #[.bool nb,C]] w fun e D=>∃ v d,e=.returned (.agg #[.bool (nb&&decide (0<d.length)),v])∧Reads .u32 D v d∧Canon d∧val d=val c - val a:=by
 have h0:=gL (na:=na) (nb:=nb) ha y;obtain ⟨r,t,rfl,U,V⟩:=ha.form;obtain ⟨s,u,rfl,J,O⟩:=y.form;have f:=Qa h0;clear h0;have j:val a≤val c:=Ju q;have M:=bE i h j
 have hi:dS (val a) (val c)<(0:Int):=by unfold dS;split <;> (try split) <;> omega
 obtain rfl:nb=!na:=by cases na <;> cases nb <;> first | rfl | exact absurd rfl Q
 generalize n:dS (val a) (val c)=cv at hi;go_enter func141,ntmps141
 go_wp2_with (go_at_call 150;refine (gI _ _ a c _ f.out.2.2.2.2.ra f.out.2.2.2.2.rb h i (by omega)).mono ?_;rintro e w1 ⟨E,rfl⟩;rw [n];have g:=Qa (eT f.out.1 f.out.2.1 f.out.2.2.1 f.out.2.2.2.1 f.out.2.2.2.2 E))
 go_region_held3 (fun W=>W.cell? ⟨w.heap.size,0,none⟩=some (.bool na)∧W.cell? ⟨w.heap.size,1,none⟩=some (.slice r a.length t)∧W.cell? ⟨w.heap.size+1,0,none⟩=some (.bool !na)∧W.cell? ⟨w.heap.size+1,1,none⟩=some (.slice s c.length u)∧aY w (.slice r a.length t) (.slice s c.length u) a c W)
  (first | exact ⟨g.out.1,g.out.2.1,g.out.2.2.1,g.out.2.2.2.1,g.out.2.2.2.2.drew⟩ | (go_split_ands;exact eT (by assumption) (by assumption) (by assumption) (by assumption) (by assumption) (by assumption)) | (go_split_ands;exact gM (by assumption) (by assumption) (by assumption) (by assumption) (by assumption) _ _ _ _))
  (first | (go_at_call 186;go_split_ands;refine (pI _ _ c a _ (aY.rb (by assumption)) (aY.ra (by assumption)) p o lb M j).mono ?_;rintro e D ⟨H,v,d,rfl,h1,F,G⟩;obtain ⟨k,l,rfl,I,N⟩:=h1.form) | (go_at_call 184;go_split_ands;refine (dK _ _ _ _ _).mono ?_;rintro e T ⟨x,rfl⟩;obtain ⟨Z,u1,u2,u3,z,A,X,Y⟩:=aY.cells (aY.step (by assumption) x)))
 obtain ⟨R,S⟩:=bA (b:=w.heap.size+1+1) z A (.bool (!na&&decide (0<d.length))) (.slice k d.length l);have L:=bf (b:=w.heap.size+1+1) (h1.below x) z A (.bool (!na&&decide (0<d.length))) (.slice k d.length l);rename_i m;replace m:=m.2.2.2.2.below;go_wp2
 refine bodyPost_ret (v:=vN (!na&&decide (0<d.length)) k d.length l) (by simp [results,results141,go_sem,loadCellsFrom,R,S]) rfl ⟨m,_,d,?_,L,F,G⟩;rfl
def bX (neg:Bool)(n:Nat):Int:=if neg then -(n:Int) else n
def ak (w:World)(v:Value)(i:Int):Prop:=∃ neg va xs,v=.agg #[.bool neg,va]∧Reads .u32 w va xs∧Canon xs∧(neg&&decide (0<xs.length))=neg∧i=bX neg (val xs)
theorem ak.below {w a:World}{v:Value}{i:Int}(h:ak w v i)(b:bW w a):ak a v i:=by
 obtain ⟨neg,f,xs,e,hr,c,d,hi⟩:=h;exact ⟨neg,f,xs,e,hr.below b,c,d,hi⟩
theorem dn {xs:List Nat}(h:Canon xs):0<val xs↔0<xs.length:=by
 constructor
 ·intro b;cases xs with | nil=>simp [val] at b | cons _ _=>simp
 ·intro a
  have:=jG h (by intro e;subst e;simp at a);exact Qf (Qq (by decide)) this
theorem aA {xs:List Nat}(h:Canon xs){k:Nat}(b:val xs<aj^k):xs.length≤k:=by
 rcases QK k xs.length with hl | hl
 ·have h1:=jG h (by intro e;subst e;simp at hl)
  have a:aj^k≤aj^(xs.length - 1):=Ql (by decide) (by omega);omega
 ·exact hl
theorem bM (neg:Bool)(n:Nat):(bX neg n).natAbs=n:=by unfold bX;split <;> omega
theorem dm {w:World}{v:Value}{a:List Nat}(neg:Bool)(h:Reads .u32 w v a)(b:Canon a){i:Int}(hi:i=bX neg (val a)):ak w (.agg #[.bool (neg&&decide (0<a.length)),v]) i:=by
 refine ⟨_,v,a,rfl,h,b,by simp,?_⟩;subst hi
 by_cases c:0<a.length
 ·have f:decide (0<a.length)=true:=decide_eq_true c
  rw [f,Bool.and_true]
 ·have:¬0<val a:=fun e=>c ((dn b).1 e)
  have d:val a=0:=by omega
  cases neg <;> simp [bX,d]
theorem Fa (a b:Value)(i j:Int)(k:Nat)(w:World)(ha:ak w a i)(x:ak w b j)(A:k≤100000)(hi:i.natAbs<aj^k)(u:j.natAbs<aj^k) :
 CB 141 #[a,b] w fun e o=>∃ v,e=.returned v∧ak o v (i+j):=by
 obtain ⟨na,r,p,rfl,f,h,y,rfl⟩:=ha;obtain ⟨nb,s,q,rfl,g,c,z,rfl⟩:=x;rw [bM] at hi u;have la:=aA h hi;have lb:=aA c u
 by_cases n:na=nb
 ·subst n
  refine (Iu na r s p q w f g h.1 c.1 (by omega) (by omega)).mono ?_;rintro e o ⟨d,v,t,rfl,h1,l,m⟩;exact ⟨d,_,rfl,dm na h1 l (by rw [m];cases na <;> simp [bX] <;> omega)⟩
 ·rcases QK (val p) (val q) with hlt | hle
  ·refine (sum_lt na nb r s p q w f g h.1 c.1 (by omega) (by omega) h c n hlt).mono ?_
   rintro e o ⟨d,v,t,rfl,h1,l,m⟩;exact ⟨d,_,rfl,dm nb h1 l (by rw [m];cases na <;> cases nb <;> first | exact absurd rfl n | (simp [bX];omega))⟩
  ·refine (MN na nb r s p q w f g h.1 c.1 (by omega) (by omega) h c n hle).mono ?_
   rintro e o ⟨d,v,t,rfl,h1,l,m⟩;exact ⟨d,_,rfl,dm na h1 l (by rw [m];cases na <;> cases nb <;> first | exact absurd rfl n | (simp [bX];omega))⟩
theorem af.below {W a:World}{b:Nat}{t:TypeId}{c:List Value}(h:af W b t c)(d:bW W a):af a b t c:=(d.block _ h.lt).trans h
theorem AA (b:Value)(j:Int)(w:World)(p:ak w b j) :
 CB 194 #[b] w fun e u=>∃ v,e=.returned v∧ak u v (-j):=by
 obtain ⟨nb,C,a,rfl,f,g,r,rfl⟩:=p;have H:=Qa f;obtain ⟨c,d,rfl,y,z⟩:=f.form;go_enter func194,ntmps194;have k:=dJ w (.cells #[.bool nb,.slice c a.length d] 24)
 have r0:af ((w.alloc (.cells #[.bool nb,.slice c a.length d] 24)).alloc (.cells #[vF,vZ] 24)) (w.heap.size+1) 24 (lN false none 0 0):=by
  have:=af.new (w.alloc (.cells #[.bool nb,.slice c a.length d] 24)) 24 (lN false none 0 0)
  rwa [Qh] at this
 have o:=Qa r0;have n:=Qa (k.alloc (by simp) (.cells #[vF,vZ] 24));clear k r0
 go_wp2_with (go_at_call 184;refine (dK _ _ _ _ _).mono ?_;rintro e x ⟨l,rfl⟩;have r1:=o.out.below l;have h:=r1.cell 0;have i:=r1.cell 1;have A:=r1.frozen 0;have B:=r1.frozen 1;simp only [Qc,Qe] at h i)
 obtain ⟨s,t⟩:=bA (b:=w.heap.size+1) h i (.bool (!nb&&decide (0<a.length))) (.slice c a.length d);have m:=n.out.trans (l.mono (by simp;omega));have q:=bf (b:=w.heap.size+1) (H.out.below m) h i (.bool (!nb&&decide (0<a.length))) (.slice c a.length d)
 refine bodyPost_ret (v:=vN (!nb&&decide (0<a.length)) c a.length d) (by simp [results,results194,go_sem,loadCellsFrom,s,t]) rfl ⟨(m.setCell (by simp) _).setCell (by simp) _,_,rfl,dm (!nb) q g (by cases nb <;> simp [bX])⟩
theorem yI (a b:Value)(i j:Int)(k:Nat)(w:World)(ha:ak w a i)(U:ak w b j)(y:k≤100000)(hi:i.natAbs<aj^k)(hj:j.natAbs<aj^k) :
 CB 153 #[a,b] w fun e Q=>∃ v,e=.returned v∧ak Q v (i - j):=by
 have d:(-j).natAbs<aj^k:=by rwa [JU]
 have S:=Qa d;have R:=Qa hi;clear d hi hj;obtain ⟨na,va,n,rfl,g,B,F,u⟩:=ha;obtain ⟨nb,vb,o,rfl,h,C,G,x⟩:=U;have h0:=gL (na:=na) (nb:=nb) g h;obtain ⟨I,L,rfl,fA,gy⟩:=g.form;obtain ⟨J,M,rfl,Z,a4⟩:=h.form;have c:=Qa h0;clear h0;go_enter func153,ntmps153
 go_wp2_with fail
 go_region_held3 (fun W=>W.cell? ⟨w.heap.size,0,none⟩=some (.bool na)∧W.cell? ⟨w.heap.size,1,none⟩=some (.slice I n.length L)∧W.cell? ⟨w.heap.size+1,0,none⟩=some (.bool nb)∧W.cell? ⟨w.heap.size+1,1,none⟩=some (.slice J o.length M)∧aY w (.slice I n.length L) (.slice J o.length M) n o W)
  (first | exact ⟨c.out.1,c.out.2.1,c.out.2.2.1,c.out.2.2.2.1,c.out.2.2.2.2.drew⟩ | (go_split_ands;exact eT (by assumption) (by assumption) (by assumption) (by assumption) (by assumption) (by assumption)) | (go_split_ands;exact gM (by assumption) (by assumption) (by assumption) (by assumption) (by assumption) _ _ _ _))
  (first | (go_at_call 194;go_split_ands;refine (AA _ j _ ⟨nb,_,o,rfl,aY.rb (by assumption),C,G,x⟩).mono ?_;rintro e Q ⟨V,v,rfl,n2,v2,x2,rfl,H,z,D,s⟩;obtain ⟨a2,c2,rfl,X,a0⟩:=H.form) | (go_at_call 141;go_split_ands;refine (Fa _ _ i (-j) k _ ⟨na,_,n,rfl,aY.ra (by assumption),B,F,u⟩ ⟨n2,_,x2,rfl,by assumption,z,D,s⟩ y R.out S.out).mono ?_;rintro e a5 ⟨T,v,rfl,l,v3,m,rfl,f,A,E,t⟩;obtain ⟨p,q,rfl,Y,a1⟩:=f.form;obtain ⟨u0,u1,u2,u3,N,O,q3,q4⟩:=aY.cells (aY.step (by assumption) T)))
 obtain ⟨s1,s2⟩:=bA (b:=w.heap.size+1+1) N O (.bool l) (.slice p m.length q);have y:=bf (b:=w.heap.size+1+1) f N O (.bool l) (.slice p m.length q);rename_i r;replace r:=r.2.2.2.2.below;go_wp2;exact bodyPost_ret (v:=vN l p m.length q) (by simp [results,results153,go_sem,loadCellsFrom,s1,s2]) rfl ⟨r,_,rfl,l,_,m,rfl,y,A,E,by rw [← t];omega⟩
end Go.Proofs.YtagjhmodblifbaaGreatDoor
