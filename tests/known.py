"""Fixed values that the tests hold the program to, also where Python's hashlib has no SHA-512/256.

The values were written out by Python's hashlib and hmac, not copied from the standards' own pages.
"""

# The messages of the examples to FIPS 180-4, of one block and of two, and no bytes: the sums of kinds 0, 1 and 2.
EXAMPLES = (
    (
        "",
        (
            "cf83e1357eefb8bdf1542850d66d8007d620e4050b5715dc83f4a921d36ce9ce"
            "47d0d13c5d85f2b0ff8318d2877eec2f63b931bd47417a81a538327af927da3e",
            "38b060a751ac96384cd9327eb1b1e36a21fdb71114be07434c0cc7bf63f6e1da"
            "274edebfe76f65fbd51ad2f14898b95b",
            "c672b8d1ef56ed28ab87c3622c5114069bdd3ad7b8f9737498d0c01ecef0967a",
        ),
    ),
    (
        "abc",
        (
            "ddaf35a193617abacc417349ae20413112e6fa4e89a97ea20a9eeee64b55d39a"
            "2192992a274fc1a836ba3c23a3feebbd454d4423643ce80e2a9ac94fa54ca49f",
            "cb00753f45a35e8bb5a03d699ac65007272c32ab0eded1631a8b605a43ff5bed"
            "8086072ba1e7cc2358baeca134c825a7",
            "53048e2681941ef99b2e29b76b4c7dabe4c2d0c634fc6d46e0e2f13107e7af23",
        ),
    ),
    (
        "abcdefghbcdefghicdefghijdefghijkefghijklfghijklmghijklmnhijklmnoijklmnopjklmnopqklmnopqrlmnopqrsmnopqrstnopqrstu",
        (
            "8e959b75dae313da8cf4f72814fc143f8f7779c6eb9f7fa17299aeadb6889018"
            "501d289e4900f7e4331b99dec4b5433ac7d329eeb6dd26545e96e55b874be909",
            "09330c33f71147e83d192fc782cd1b4753111b173b3b05d22fa08086e3b0f712"
            "fcc7c71a557e2db966c3e9fa91746039",
            "3928e184fb8690f840da3988121d31be65cb9d3ef83ee6146feac861e19b563a",
        ),
    ),
)

# SHA-512/256 of pattern(length), by length.
SHORT_SUMS = {
    0: "c672b8d1ef56ed28ab87c3622c5114069bdd3ad7b8f9737498d0c01ecef0967a",
    1: "5621a3af58461bf57da78828a3122a0b6c4be14d27b5a1e6388a56e19bcfaa67",
    111: "b20757cfa399545cb49ca9116688d7aabe51f9a44fa0b09df3d33de670870263",
    112: "e653d88aeafc8266e9fbce54f780ca7f76bd5518c39574a5a8d1f6c3d809fc5c",
    113: "48310f5fee1013c640e27afe23a68992714f3717e4400f5a35f3d103e683f397",
    127: "bd6f562d3eef90c1b3be29f5f56b28093c7209f19889ce6a9723034c97308fd6",
    128: "c3c3dbce0b79728008912f8099d005062eb8a0c68baae67c8c0e244951fa4e5e",
    129: "64d0ad4c1db2f314aa9c6de7a48eec2e87fc57315f3aa55aa99dde0b8a5d72bc",
    239: "efd15841ebd04320f2a0742b46afd7bd142f08af600058684fa49f3a505bd6fb",
    240: "c2e8a6366d9716c55a622de944b3a0a48035db7248d7a8cf9424a47a60eb990c",
    241: "ded65beebb1f3863b6867e24db26267c074e945ea38a36ba5d8f7783f3d84153",
    255: "c98a1777f881abac97396357c12172ed38b728e707581eab0e0f4b194cc2e196",
    256: "a8fd625505b5f897f5b2a7b9f19f75587df8c0e7ceac7c6e2516c242979da1e9",
    257: "1901bcb4ff3cbf73dc1522d3066cafa3ec450f7d1cb51d46baa943070eed8974",
    5000: "c8f12488be21c29d43f566c0c90abe65913a4ae6168e46d5cacad598229ee39e",
}

# HMAC with SHA-512/256 of pattern(300) under the key pattern(length), by length.
SHORT_MARKS = {
    0: "dbef64c9fcc178da91dfcbb06e85704394d9484a2e16673a3d7620d06a7f305b",
    1: "f2a10b835e210f651a4ec85f0f88d95278fe72b952e6f87ed6eea672476030e0",
    20: "4e6bf8d57d2093998c5dabff8287478d84873b4801ee0317b1a239b949381272",
    127: "9c88414d4d20d8aee9c0161d82412fb7661c89c582655634330aa7c05e78f4e7",
    128: "68b0cdaa21e7ff703d9c5544df9cfe7f3a99c5e09ae688caac0f81f626c562cd",
    129: "bc539db678d4d3801ef4def33b9a6bbc2a6577453d9caa80ef2d2f261a95573b",
    1024: "5d8c79b51602abc6aefb198dda7cf2e9ed762f324e9b68fe47bbc6ec0e4d1cbc",
}

# The inputs of RFC 4231, 4.2 to 4.8 without the cut one (4.6): key, data, HMAC-SHA-512, HMAC-SHA-384, in hex.
RFC_4231 = (
    (
        "0b0b0b0b0b0b0b0b0b0b0b0b0b0b0b0b0b0b0b0b",
        "4869205468657265",
        "87aa7cdea5ef619d4ff0b4241a1d6cb02379f4e2ce4ec2787ad0b30545e17cde"
        "daa833b7d6b8a702038b274eaea3f4e4be9d914eeb61f1702e696c203a126854",
        "afd03944d84895626b0825f4ab46907f15f9dadbe4101ec682aa034c7cebc59c"
        "faea9ea9076ede7f4af152e8b2fa9cb6",
    ),
    (
        "4a656665",
        "7768617420646f2079612077616e7420666f72206e6f7468696e673f",
        "164b7a7bfcf819e2e395fbe73b56e0a387bd64222e831fd610270cd7ea250554"
        "9758bf75c05a994a6d034f65f8f0e6fdcaeab1a34d4a6b4b636e070a38bce737",
        "af45d2e376484031617f78d2b58a6b1b9c7ef464f5a01b47e42ec3736322445e"
        "8e2240ca5e69e2c78b3239ecfab21649",
    ),
    (
        "aaaaaaaaaaaaaaaaaaaaaaaaaaaaaaaaaaaaaaaa",
        "dddddddddddddddddddddddddddddddddddddddddddddddddddddddddddddddd"
        "dddddddddddddddddddddddddddddddddddd",
        "fa73b0089d56a284efb0f0756c890be9b1b5dbdd8ee81a3655f83e33b2279d39"
        "bf3e848279a722c806b485a47e67c807b946a337bee8942674278859e13292fb",
        "88062608d3e6ad8a0aa2ace014c8a86f0aa635d947ac9febe83ef4e55966144b"
        "2a5ab39dc13814b94e3ab6e101a34f27",
    ),
    (
        "0102030405060708090a0b0c0d0e0f10111213141516171819",
        "cdcdcdcdcdcdcdcdcdcdcdcdcdcdcdcdcdcdcdcdcdcdcdcdcdcdcdcdcdcdcdcd"
        "cdcdcdcdcdcdcdcdcdcdcdcdcdcdcdcdcdcd",
        "b0ba465637458c6990e5a8c5f61d4af7e576d97ff94b872de76f8050361ee3db"
        "a91ca5c11aa25eb4d679275cc5788063a5f19741120c4f2de2adebeb10a298dd",
        "3e8a69b7783c25851933ab6290af6ca77a9981480850009cc5577c6e1f573b4e"
        "6801dd23c4a7d679ccf8a386c674cffb",
    ),
    (
        "aaaaaaaaaaaaaaaaaaaaaaaaaaaaaaaaaaaaaaaaaaaaaaaaaaaaaaaaaaaaaaaa"
        "aaaaaaaaaaaaaaaaaaaaaaaaaaaaaaaaaaaaaaaaaaaaaaaaaaaaaaaaaaaaaaaa"
        "aaaaaaaaaaaaaaaaaaaaaaaaaaaaaaaaaaaaaaaaaaaaaaaaaaaaaaaaaaaaaaaa"
        "aaaaaaaaaaaaaaaaaaaaaaaaaaaaaaaaaaaaaaaaaaaaaaaaaaaaaaaaaaaaaaaa"
        "aaaaaa",
        "54657374205573696e67204c6172676572205468616e20426c6f636b2d53697a"
        "65204b6579202d2048617368204b6579204669727374",
        "80b24263c7c1a3ebb71493c1dd7be8b49b46d1f41b4aeec1121b013783f8f352"
        "6b56d037e05f2598bd0fd2215d6a1e5295e64f73f63f0aec8b915a985d786598",
        "4ece084485813e9088d2c63a041bc5b44f9ef1012a2b588f3cd11f05033ac4c6"
        "0c2ef6ab4030fe8296248df163f44952",
    ),
    (
        "aaaaaaaaaaaaaaaaaaaaaaaaaaaaaaaaaaaaaaaaaaaaaaaaaaaaaaaaaaaaaaaa"
        "aaaaaaaaaaaaaaaaaaaaaaaaaaaaaaaaaaaaaaaaaaaaaaaaaaaaaaaaaaaaaaaa"
        "aaaaaaaaaaaaaaaaaaaaaaaaaaaaaaaaaaaaaaaaaaaaaaaaaaaaaaaaaaaaaaaa"
        "aaaaaaaaaaaaaaaaaaaaaaaaaaaaaaaaaaaaaaaaaaaaaaaaaaaaaaaaaaaaaaaa"
        "aaaaaa",
        "5468697320697320612074657374207573696e672061206c6172676572207468"
        "616e20626c6f636b2d73697a65206b657920616e642061206c61726765722074"
        "68616e20626c6f636b2d73697a6520646174612e20546865206b6579206e6565"
        "647320746f20626520686173686564206265666f7265206265696e6720757365"
        "642062792074686520484d414320616c676f726974686d2e",
        "e37b6a775dc87dbaa4dfa9f96e5e3ffddebd71f8867289865df5a32d20cdc944"
        "b6022cac3c4982b10d5eeb55c3e4de15134676fb6de0446065c97440fa8c6a58",
        "6617178e941f020d351e2f254e8fd32c602420feb0b8fb9adccebb82461e99c5"
        "a678cc31e799176d3860e6110c46523e",
    ),
)

# PBKDF2 of the words and the salt (texts), by rounds: as many bytes as each kind has, of kinds 0, 1 and 2.
SLOW_TEXTS = (
    (
        "password", "salt", 1,
        (
            "867f70cf1ade02cff3752599a3a53dc4af34c7a669815ae5d513554e1c8cf252"
            "c02d470a285a0501bad999bfe943c08f050235d7d68b1da55e63f73b60a57fce",
            "c0e14f06e49e32d73f9f52ddf1d0c5c7191609233631dadd76a567db42b78676"
            "b38fc800cc53ddb642f5c74442e62be4",
            "4b6a63117d3ec0032624616082c1c1912f56fa5f0c1f94574d515e20e5ddd74a",
        ),
    ),
    (
        "password", "salt", 2,
        (
            "e1d9c16aa681708a45f5c7c4e215ceb66e011a2e9f0040713f18aefdb866d53c"
            "f76cab2868a39b9f7840edce4fef5a82be67335c77a6068e04112754f27ccf4e",
            "54f775c6d790f21930459162fc535dbf04a939185127016a04176a0730c6f1f4"
            "fb48832ad1261baadd2cedd50814b1c8",
            "fcfd108c99cc888ec0af9f184885aff5f02d19a956afad9ccea4d56a482b851b",
        ),
    ),
    (
        "passwordPASSWORDpassword", "saltSALTsaltSALTsaltSALTsaltSALTsalt", 3,
        (
            "e3ad582d92516a866ef6a2725080fbee6f7cd51734047789cccdae6581e79529"
            "601c42bf26261838b697a3a819e36dab84f1987867fc40a605429d6c540e3cb2",
            "5b55a9d4eb756e54a3308e935e36e1b6c5fdf977d061fdd671ef39e1827811c8"
            "ab46420cb809b5cb295ac7c699193c43",
            "aed82c4446a6e4cd9087161b0f69620423eb487437ce682b2d68bce6e364494d",
        ),
    ),
)

# PBKDF2 with SHA-512/256: rounds, how many bytes are made, how long the words pattern(..) and the salt pattern(..) are.
SHORT_SLOW = (
    (
        1, 1, 5, 4,
        "81",
    ),
    (
        1, 31, 5, 4,
        "81224975621763cdcb61f98102cf4c8f1040c214accf202a70dee695dbc8b0",
    ),
    (
        2, 32, 5, 4,
        "bc233c4c9d0f9aa5f6b3628d9b8c78ad80d4286230d1664ad903fb81b968e4b9",
    ),
    (
        3, 33, 5, 4,
        "fbcbed6c1fd25e091be240f0abfbd0405b68a5ae5a6a36828f0c30331bebb86f"
        "c3",
    ),
    (
        300, 65, 5, 4,
        "f1d299aff3fb9931735ceda411da130b560db4f86c63cf634acf9f6161bfa59e"
        "ae4d30877288bd031a00b3bb4b767319db8c3f24f5728b202b9e00c27aa35a47"
        "0f",
    ),
    (
        2, 100, 0, 0,
        "299f42d6a6edb0d4d420fe20ea7640f0e5af2d30c0b2a71186712db28970f2c0"
        "4bfb7ac5f22c22b599f614f1d27e5d37f9195b3015bebea623a3e8175e1589ae"
        "100f0883cff04a215a26b31f76fae744154fda0592867a49dc395a7856eac503"
        "0a6d5507",
    ),
    (
        2, 33, 127, 128,
        "afa1e2c338ced8354ed272efaf89324c7243b3c4e13b2f5ede96e11ec1dbcecd"
        "48",
    ),
    (
        2, 33, 128, 127,
        "576c391cd91b823f94f30f43884e5958b642916bd30602db47f0717fe1eca10a"
        "36",
    ),
    (
        2, 33, 129, 129,
        "cc4a1ec50f63f4f5fa07562920261cf79817a6e3a0f111eaa243af9d91d1cae5"
        "fd",
    ),
    (
        2, 33, 1024, 1024,
        "ea0b6536b17da8d3cd22ec4fcca9cbe7c4c742003ac6d7955236997076a1a4c4"
        "5e",
    ),
)

# HKDF with SHA-512/256: how many bytes are made, how long the secret, the salt and the use are, each a pattern(..).
SHORT_DRAWN = (
    (
        1, 22, 13, 10,
        "a5",
    ),
    (
        31, 22, 13, 10,
        "a51105f42132c6b5df842a28098e51d3a1cb090620c247483ad73e9f1f7c08",
    ),
    (
        32, 22, 13, 10,
        "a51105f42132c6b5df842a28098e51d3a1cb090620c247483ad73e9f1f7c087a",
    ),
    (
        33, 22, 13, 10,
        "a51105f42132c6b5df842a28098e51d3a1cb090620c247483ad73e9f1f7c087a"
        "ef",
    ),
    (
        100, 22, 13, 10,
        "a51105f42132c6b5df842a28098e51d3a1cb090620c247483ad73e9f1f7c087a"
        "efe6a8ff1e72e41aa89597e22596f45a16ca5753edb3a96c29fa82ca7584a6fc"
        "464d152cf722007ab69b82f37469c92ddcd4012e8a41b1b8d83f5b0898cc7116"
        "45892af2",
    ),
    (
        42, 80, 80, 80,
        "e7b884f00d7213933763bf362c62ba5a869093b5463d5d3b04db2b34d9cc191f"
        "66d09a385ed09b1a0937",
    ),
    (
        42, 22, 0, 0,
        "ae3e198fd34a8745a5e4984858bf79b5eafadc69d3911a0ed20a29974d243d50"
        "c6185fd4a22daa9c1c2e",
    ),
    (
        65, 0, 0, 0,
        "2166df769725d8c49e96a3cb11a39aad0eecd0f16ae311ecc00cc2ad510c1b96"
        "61d0572fc143982ec09a76152980aebc3bab7fb8e253c4721211cdf3f2f1bb45"
        "97",
    ),
    (
        33, 127, 128, 129,
        "c72d56d3022940fcd43d8d21bdc2b6f09cef15849989394617e6e7cc5f69a6f1"
        "42",
    ),
    (
        33, 128, 129, 127,
        "51a0ece6e9f499ed6e2b9a016cd6d1f96d87614d3d13b2c4b190e457c00e45f9"
        "3a",
    ),
    (
        33, 129, 127, 128,
        "fb7ce8dd8bb2ebb5db191b46911ce13c0b334abb994c4b777cd5a1bd7c07a61c"
        "c1",
    ),
    (
        33, 1024, 1024, 1024,
        "b177afb0f48b617932f0ff505119c51312ceb51ab3b308747cc5169fd4045f0f"
        "37",
    ),
)

# The tree with SHA-512/256 over pattern(width * count): width, count, its sum.
SHORT_TREES = (
    (0, 1, "10baad1713566ac2333467bddb0597dec9066120dd72ac2dcb8394221dcbe43d"),
    (1, 1, "fd0ff102b04ae2f6c060f13ac98d7377cab4e391b81b9cd78c00789a63d36827"),
    (0, 2, "862fbbfbb277ef113962dfb13b639afcbbf15fd0cb45297caafd13c69e05db36"),
    (5, 3, "c62d636c3a2107253a12989879b6a329ec25ca89a7b1e6879e8b4fcf97ffae64"),
    (110, 4, "332be91fd113614f95cdf492ccdd15d6639bf6fe031bcf6d70dec8d84a7902a2"),
    (111, 5, "d2c37975eb118e702be69006b2262f817f972cb5a9e3b9902c253c37f21c1ca1"),
    (127, 6, "b58dacc7cf65406a6b829abc3520b2b64ed48bff70e91f329f0c9286b11f8914"),
    (128, 7, "b22018cfedb853f7370e9ca6282468f12420610a40dab88352839be41ee9c59b"),
    (256, 8, "d20dc590be7eac034a02660abd70efd12e1e2dbd554206aa86b66518a3bad2fc"),
    (9, 9, "0185b5c1682793d47d8ebfa6f504540bcef407a024632b52809e09e560b74d6c"),
    (9, 11, "bb07630ef8cb4be83ec7659496bc5d475eded25a697b354ab19f4fcc12569c6b"),
    (9, 13, "4636630cd66c2f824b641b3d514ab698ab3387ef4a5775205c957f15a0299db8"),
    (3, 255, "310162c45deaca0ccf568aa40ec2d3080026f921393022cbc20e9f1e127d918a"),
    (3, 256, "eb23e626611f849d6a8a0b1b22468a44e4d6b8fc742c735f6037a7609826075e"),
    (256, 116, "8b6a3b681275dae46f9d82166ce157f19e37b2301833a9c34fa38f0063166f24"),
)
