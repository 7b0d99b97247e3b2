"""Parts of molecules: where a pattern stands in a molecule, whichever way it's drawn."""
