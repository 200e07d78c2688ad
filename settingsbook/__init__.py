"""Settings' texts (TOML 1.0): read strictly, kept, and shown in one form."""
