"""Spelling by sound: rules make sounds of letters while these come."""
